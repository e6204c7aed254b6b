/- The law on plain statuses. No condition. -/
import Derived.Test.YtjodnailnpnpnaaSy3
import Derived.Test.YtjodnailnpnpnaaRows
namespace Go.Proofs.Ytjodnailnpnpnaa.w
open Go Go.Ev Go.Sy Go.RowKit

def plain (k : Int) : Bool := k == 200 || k == 203 || k == 204 || k == 300 || k == 301 || k == 308 || k == 404 || k == 405 || k == 410 || k == 414 || k == 501
def T1 (f : FuncId) (args : List Value) (h : Hp) : Option (Prop × Value × Hp) :=
  match f, args with
  | 3, [] => some (True, .bool true, h)
  | 17, [.int .i64 k] => some (True, .bool (plain k), h)
  | 15, [.int .i64 n, .int .i64 lo, .int .i64 hi] => some (Small lo ∧ Small hi ∧ lo ≤ hi, .int .i64 (within n lo hi), h)
  | _, _ => none
noncomputable abbrev E0 : Env := bare Try.prog
noncomputable abbrev E1 : Env := withT Try.prog T1
theorem mixed : Try.prog.follows .mixedOrders = true := by kernel_rfl
theorem within_vc (n lo hi : Int) (v : Value) : scall E0 40 15 [.int .i64 n, .int .i64 lo, .int .i64 hi] ⟨.leaf, 0⟩ (fun r => r.1 = .ret v) =
  (br (IntKind.wrap IntKind.i64 (IntKind.wrap IntKind.i64 (hi - lo) + (1 : Int)) != (0 : Int))
   (br (decide (Int.tmod n (IntKind.wrap IntKind.i64 (IntKind.wrap IntKind.i64 (hi - lo) + (1 : Int))) < (0 : Int)))
    (End.ret (Value.int IntKind.i64 (IntKind.wrap IntKind.i64 (lo + IntKind.wrap IntKind.i64 (IntKind.wrap IntKind.i64 (IntKind.wrap IntKind.i64 (Int.tmod n (IntKind.wrap IntKind.i64 (IntKind.wrap IntKind.i64 (hi - lo) + (1 : Int))) + hi) - lo) + (1 : Int))))) = End.ret v)
    (End.ret (Value.int IntKind.i64 (IntKind.wrap IntKind.i64 (lo + Int.tmod n (IntKind.wrap IntKind.i64 (IntKind.wrap IntKind.i64 (hi - lo) + (1 : Int)))))) = End.ret v))
   False) := by kernel_rfl
theorem plain_vc (k : Int) (v : Value) : scall E0 60 17 [.int .i64 k] ⟨.leaf, 0⟩ (fun r => r.1 = .ret v) =
  (br (k == (200 : Int))
   (End.ret (Value.bool true) = End.ret v)
   (br (k == (203 : Int))
    (End.ret (Value.bool true) = End.ret v)
    (br (k == (204 : Int))
     (End.ret (Value.bool true) = End.ret v)
     (br (k == (300 : Int))
      (End.ret (Value.bool true) = End.ret v)
      (br (k == (301 : Int))
       (End.ret (Value.bool true) = End.ret v)
       (br (k == (308 : Int))
        (End.ret (Value.bool true) = End.ret v)
        (br (k == (404 : Int))
         (End.ret (Value.bool true) = End.ret v)
         (br (k == (405 : Int))
          (End.ret (Value.bool true) = End.ret v)
          (br (k == (410 : Int))
           (End.ret (Value.bool true) = End.ret v)
           (br (k == (414 : Int))
            (End.ret (Value.bool true) = End.ret v)
            (br (k == (501 : Int))
             (End.ret (Value.bool true) = End.ret v)
             (End.ret (Value.bool false) = End.ret v)))))))))))) := by kernel_rfl
theorem keep_vc (s : Int) : scall E1 200 6 [.int .i64 s] ⟨.leaf, 0⟩ (fun r => r.1 = .ret (.bool true)) =
  ((Small (100 : Int) ∧ Small (599 : Int) ∧ (100 : Int) ≤ (599 : Int)) ∧
  (br (decide (within s (100 : Int) (599 : Int) < (200 : Int)))
   ((Value.agg (Array.mk [Value.string (ByteArray.mk #[(71 : UInt8), (69 : UInt8), (84 : UInt8)]), Value.string (ByteArray.mk #[]), Value.string (ByteArray.mk #[]), Value.string (ByteArray.mk #[]), Value.slice none (0 : Nat) (0 : Nat), Value.int IntKind.i64 (0 : Int)]) = Value.agg (Array.mk [Value.string (ByteArray.mk #[(71 : UInt8), (69 : UInt8), (84 : UInt8)]), Value.string (ByteArray.mk #[]), Value.string (ByteArray.mk #[]), Value.string (ByteArray.mk #[]), Value.slice none (0 : Nat) (0 : Nat), Value.int IntKind.i64 (0 : Int)])) ∧
   ((Value.agg (Array.mk [Value.string (ByteArray.mk #[(71 : UInt8), (69 : UInt8), (84 : UInt8)]), Value.string (ByteArray.mk #[]), Value.string (ByteArray.mk #[]), Value.string (ByteArray.mk #[]), Value.slice none (0 : Nat) (0 : Nat), Value.int IntKind.i64 (0 : Int)]) = Value.agg (Array.mk [Value.string (ByteArray.mk #[(71 : UInt8), (69 : UInt8), (84 : UInt8)]), Value.string (ByteArray.mk #[]), Value.string (ByteArray.mk #[]), Value.string (ByteArray.mk #[]), Value.slice none (0 : Nat) (0 : Nat), Value.int IntKind.i64 (0 : Int)])) ∧
   (br (decide (within s (100 : Int) (599 : Int) < (200 : Int)))
    ((True) ∧
    (br (false == plain (within s (100 : Int) (599 : Int)))
     (br (decide (within s (100 : Int) (599 : Int) ≥ (200 : Int)))
      (br (within s (100 : Int) (599 : Int) != (206 : Int))
       (br (false == (within s (100 : Int) (599 : Int) != (304 : Int)))
        ((True) ∧
        (End.ret (Value.bool true) = End.ret (Value.bool true)))
        (End.ret (Value.bool false) = End.ret (Value.bool true)))
       ((True) ∧
       (End.ret (Value.bool true) = End.ret (Value.bool true))))
      ((True) ∧
      (End.ret (Value.bool true) = End.ret (Value.bool true))))
     (End.ret (Value.bool false) = End.ret (Value.bool true))))
    (br (within s (100 : Int) (599 : Int) == (206 : Int))
     ((True) ∧
     (br (false == plain (within s (100 : Int) (599 : Int)))
      (br (decide (within s (100 : Int) (599 : Int) ≥ (200 : Int)))
       (br (within s (100 : Int) (599 : Int) != (206 : Int))
        (br (false == (within s (100 : Int) (599 : Int) != (304 : Int)))
         ((True) ∧
         (End.ret (Value.bool true) = End.ret (Value.bool true)))
         (End.ret (Value.bool false) = End.ret (Value.bool true)))
        ((True) ∧
        (End.ret (Value.bool true) = End.ret (Value.bool true))))
       ((True) ∧
       (End.ret (Value.bool true) = End.ret (Value.bool true))))
      (End.ret (Value.bool false) = End.ret (Value.bool true))))
     (br (within s (100 : Int) (599 : Int) == (304 : Int))
      ((True) ∧
      (br (false == plain (within s (100 : Int) (599 : Int)))
       (br (decide (within s (100 : Int) (599 : Int) ≥ (200 : Int)))
        (br (within s (100 : Int) (599 : Int) != (206 : Int))
         (br (false == (within s (100 : Int) (599 : Int) != (304 : Int)))
          ((True) ∧
          (End.ret (Value.bool true) = End.ret (Value.bool true)))
          (End.ret (Value.bool false) = End.ret (Value.bool true)))
         ((True) ∧
         (End.ret (Value.bool true) = End.ret (Value.bool true))))
        ((True) ∧
        (End.ret (Value.bool true) = End.ret (Value.bool true))))
       (End.ret (Value.bool false) = End.ret (Value.bool true))))
      ((Value.slice none (0 : Nat) (0 : Nat) = Value.slice none (0 : Nat) (0 : Nat)) ∧
      ((Value.slice none (0 : Nat) (0 : Nat) = Value.slice none (0 : Nat) (0 : Nat)) ∧
      ((Value.slice none (0 : Nat) (0 : Nat) = Value.slice none (0 : Nat) (0 : Nat)) ∧
      ((True) ∧
      ((True) ∧
      (br (plain (within s (100 : Int) (599 : Int)) == plain (within s (100 : Int) (599 : Int)))
       (br (decide (within s (100 : Int) (599 : Int) ≥ (200 : Int)))
        (br (within s (100 : Int) (599 : Int) != (206 : Int))
         (br (false == (within s (100 : Int) (599 : Int) != (304 : Int)))
          ((True) ∧
          (End.ret (Value.bool true) = End.ret (Value.bool true)))
          (End.ret (Value.bool false) = End.ret (Value.bool true)))
         ((True) ∧
         (End.ret (Value.bool true) = End.ret (Value.bool true))))
        ((True) ∧
        (End.ret (Value.bool true) = End.ret (Value.bool true))))
       (End.ret (Value.bool false) = End.ret (Value.bool true)))))))))))))
   (br (within s (100 : Int) (599 : Int) == (206 : Int))
    ((Value.agg (Array.mk [Value.string (ByteArray.mk #[(71 : UInt8), (69 : UInt8), (84 : UInt8)]), Value.string (ByteArray.mk #[]), Value.string (ByteArray.mk #[]), Value.string (ByteArray.mk #[]), Value.slice none (0 : Nat) (0 : Nat), Value.int IntKind.i64 (0 : Int)]) = Value.agg (Array.mk [Value.string (ByteArray.mk #[(71 : UInt8), (69 : UInt8), (84 : UInt8)]), Value.string (ByteArray.mk #[]), Value.string (ByteArray.mk #[]), Value.string (ByteArray.mk #[]), Value.slice none (0 : Nat) (0 : Nat), Value.int IntKind.i64 (0 : Int)])) ∧
    ((Value.agg (Array.mk [Value.string (ByteArray.mk #[(71 : UInt8), (69 : UInt8), (84 : UInt8)]), Value.string (ByteArray.mk #[]), Value.string (ByteArray.mk #[]), Value.string (ByteArray.mk #[]), Value.slice none (0 : Nat) (0 : Nat), Value.int IntKind.i64 (0 : Int)]) = Value.agg (Array.mk [Value.string (ByteArray.mk #[(71 : UInt8), (69 : UInt8), (84 : UInt8)]), Value.string (ByteArray.mk #[]), Value.string (ByteArray.mk #[]), Value.string (ByteArray.mk #[]), Value.slice none (0 : Nat) (0 : Nat), Value.int IntKind.i64 (0 : Int)])) ∧
    (br (decide (within s (100 : Int) (599 : Int) < (200 : Int)))
     ((True) ∧
     (br (false == plain (within s (100 : Int) (599 : Int)))
      (br (decide (within s (100 : Int) (599 : Int) ≥ (200 : Int)))
       (br (within s (100 : Int) (599 : Int) != (206 : Int))
        (br (false == (within s (100 : Int) (599 : Int) != (304 : Int)))
         ((True) ∧
         (End.ret (Value.bool true) = End.ret (Value.bool true)))
         (End.ret (Value.bool false) = End.ret (Value.bool true)))
        ((True) ∧
        (End.ret (Value.bool true) = End.ret (Value.bool true))))
       ((True) ∧
       (End.ret (Value.bool true) = End.ret (Value.bool true))))
      (End.ret (Value.bool false) = End.ret (Value.bool true))))
     (br (within s (100 : Int) (599 : Int) == (206 : Int))
      ((True) ∧
      (br (false == plain (within s (100 : Int) (599 : Int)))
       (br (decide (within s (100 : Int) (599 : Int) ≥ (200 : Int)))
        (br (within s (100 : Int) (599 : Int) != (206 : Int))
         (br (false == (within s (100 : Int) (599 : Int) != (304 : Int)))
          ((True) ∧
          (End.ret (Value.bool true) = End.ret (Value.bool true)))
          (End.ret (Value.bool false) = End.ret (Value.bool true)))
         ((True) ∧
         (End.ret (Value.bool true) = End.ret (Value.bool true))))
        ((True) ∧
        (End.ret (Value.bool true) = End.ret (Value.bool true))))
       (End.ret (Value.bool false) = End.ret (Value.bool true))))
      (br (within s (100 : Int) (599 : Int) == (304 : Int))
       ((True) ∧
       (br (false == plain (within s (100 : Int) (599 : Int)))
        (br (decide (within s (100 : Int) (599 : Int) ≥ (200 : Int)))
         (br (within s (100 : Int) (599 : Int) != (206 : Int))
          (br (false == (within s (100 : Int) (599 : Int) != (304 : Int)))
           ((True) ∧
           (End.ret (Value.bool true) = End.ret (Value.bool true)))
           (End.ret (Value.bool false) = End.ret (Value.bool true)))
          ((True) ∧
          (End.ret (Value.bool true) = End.ret (Value.bool true))))
         ((True) ∧
         (End.ret (Value.bool true) = End.ret (Value.bool true))))
        (End.ret (Value.bool false) = End.ret (Value.bool true))))
       ((Value.slice none (0 : Nat) (0 : Nat) = Value.slice none (0 : Nat) (0 : Nat)) ∧
       ((Value.slice none (0 : Nat) (0 : Nat) = Value.slice none (0 : Nat) (0 : Nat)) ∧
       ((Value.slice none (0 : Nat) (0 : Nat) = Value.slice none (0 : Nat) (0 : Nat)) ∧
       ((True) ∧
       ((True) ∧
       (br (plain (within s (100 : Int) (599 : Int)) == plain (within s (100 : Int) (599 : Int)))
        (br (decide (within s (100 : Int) (599 : Int) ≥ (200 : Int)))
         (br (within s (100 : Int) (599 : Int) != (206 : Int))
          (br (false == (within s (100 : Int) (599 : Int) != (304 : Int)))
           ((True) ∧
           (End.ret (Value.bool true) = End.ret (Value.bool true)))
           (End.ret (Value.bool false) = End.ret (Value.bool true)))
          ((True) ∧
          (End.ret (Value.bool true) = End.ret (Value.bool true))))
         ((True) ∧
         (End.ret (Value.bool true) = End.ret (Value.bool true))))
        (End.ret (Value.bool false) = End.ret (Value.bool true)))))))))))))
    (br (within s (100 : Int) (599 : Int) == (304 : Int))
     ((Value.agg (Array.mk [Value.string (ByteArray.mk #[(71 : UInt8), (69 : UInt8), (84 : UInt8)]), Value.string (ByteArray.mk #[]), Value.string (ByteArray.mk #[]), Value.string (ByteArray.mk #[]), Value.slice none (0 : Nat) (0 : Nat), Value.int IntKind.i64 (0 : Int)]) = Value.agg (Array.mk [Value.string (ByteArray.mk #[(71 : UInt8), (69 : UInt8), (84 : UInt8)]), Value.string (ByteArray.mk #[]), Value.string (ByteArray.mk #[]), Value.string (ByteArray.mk #[]), Value.slice none (0 : Nat) (0 : Nat), Value.int IntKind.i64 (0 : Int)])) ∧
     ((Value.agg (Array.mk [Value.string (ByteArray.mk #[(71 : UInt8), (69 : UInt8), (84 : UInt8)]), Value.string (ByteArray.mk #[]), Value.string (ByteArray.mk #[]), Value.string (ByteArray.mk #[]), Value.slice none (0 : Nat) (0 : Nat), Value.int IntKind.i64 (0 : Int)]) = Value.agg (Array.mk [Value.string (ByteArray.mk #[(71 : UInt8), (69 : UInt8), (84 : UInt8)]), Value.string (ByteArray.mk #[]), Value.string (ByteArray.mk #[]), Value.string (ByteArray.mk #[]), Value.slice none (0 : Nat) (0 : Nat), Value.int IntKind.i64 (0 : Int)])) ∧
     (br (decide (within s (100 : Int) (599 : Int) < (200 : Int)))
      ((True) ∧
      (br (false == plain (within s (100 : Int) (599 : Int)))
       (br (decide (within s (100 : Int) (599 : Int) ≥ (200 : Int)))
        (br (within s (100 : Int) (599 : Int) != (206 : Int))
         (br (false == (within s (100 : Int) (599 : Int) != (304 : Int)))
          ((True) ∧
          (End.ret (Value.bool true) = End.ret (Value.bool true)))
          (End.ret (Value.bool false) = End.ret (Value.bool true)))
         ((True) ∧
         (End.ret (Value.bool true) = End.ret (Value.bool true))))
        ((True) ∧
        (End.ret (Value.bool true) = End.ret (Value.bool true))))
       (End.ret (Value.bool false) = End.ret (Value.bool true))))
      (br (within s (100 : Int) (599 : Int) == (206 : Int))
       ((True) ∧
       (br (false == plain (within s (100 : Int) (599 : Int)))
        (br (decide (within s (100 : Int) (599 : Int) ≥ (200 : Int)))
         (br (within s (100 : Int) (599 : Int) != (206 : Int))
          (br (false == (within s (100 : Int) (599 : Int) != (304 : Int)))
           ((True) ∧
           (End.ret (Value.bool true) = End.ret (Value.bool true)))
           (End.ret (Value.bool false) = End.ret (Value.bool true)))
          ((True) ∧
          (End.ret (Value.bool true) = End.ret (Value.bool true))))
         ((True) ∧
         (End.ret (Value.bool true) = End.ret (Value.bool true))))
        (End.ret (Value.bool false) = End.ret (Value.bool true))))
       (br (within s (100 : Int) (599 : Int) == (304 : Int))
        ((True) ∧
        (br (false == plain (within s (100 : Int) (599 : Int)))
         (br (decide (within s (100 : Int) (599 : Int) ≥ (200 : Int)))
          (br (within s (100 : Int) (599 : Int) != (206 : Int))
           (br (false == (within s (100 : Int) (599 : Int) != (304 : Int)))
            ((True) ∧
            (End.ret (Value.bool true) = End.ret (Value.bool true)))
            (End.ret (Value.bool false) = End.ret (Value.bool true)))
           ((True) ∧
           (End.ret (Value.bool true) = End.ret (Value.bool true))))
          ((True) ∧
          (End.ret (Value.bool true) = End.ret (Value.bool true))))
         (End.ret (Value.bool false) = End.ret (Value.bool true))))
        ((Value.slice none (0 : Nat) (0 : Nat) = Value.slice none (0 : Nat) (0 : Nat)) ∧
        ((Value.slice none (0 : Nat) (0 : Nat) = Value.slice none (0 : Nat) (0 : Nat)) ∧
        ((Value.slice none (0 : Nat) (0 : Nat) = Value.slice none (0 : Nat) (0 : Nat)) ∧
        ((True) ∧
        ((True) ∧
        (br (plain (within s (100 : Int) (599 : Int)) == plain (within s (100 : Int) (599 : Int)))
         (br (decide (within s (100 : Int) (599 : Int) ≥ (200 : Int)))
          (br (within s (100 : Int) (599 : Int) != (206 : Int))
           (br (false == (within s (100 : Int) (599 : Int) != (304 : Int)))
            ((True) ∧
            (End.ret (Value.bool true) = End.ret (Value.bool true)))
            (End.ret (Value.bool false) = End.ret (Value.bool true)))
           ((True) ∧
           (End.ret (Value.bool true) = End.ret (Value.bool true))))
          ((True) ∧
          (End.ret (Value.bool true) = End.ret (Value.bool true))))
         (End.ret (Value.bool false) = End.ret (Value.bool true)))))))))))))
     ((Value.slice none (0 : Nat) (0 : Nat) = Value.slice none (0 : Nat) (0 : Nat)) ∧
     ((Value.slice (some (Addr.mk (4 : Nat) (0 : Nat) none)) (1 : Nat) (2 : Nat) = Value.slice (some (Addr.mk (4 : Nat) (0 : Nat) none)) (1 : Nat) (2 : Nat)) ∧
     ((Value.slice (some (Addr.mk (4 : Nat) (0 : Nat) none)) (1 : Nat) (2 : Nat) = Value.slice (some (Addr.mk (4 : Nat) (0 : Nat) none)) (1 : Nat) (2 : Nat)) ∧
     ((Value.agg (Array.mk [Value.string (ByteArray.mk #[(71 : UInt8), (69 : UInt8), (84 : UInt8)]), Value.string (ByteArray.mk #[]), Value.string (ByteArray.mk #[]), Value.string (ByteArray.mk #[]), Value.slice none (0 : Nat) (0 : Nat), Value.int IntKind.i64 (0 : Int)]) = Value.agg (Array.mk [Value.string (ByteArray.mk #[(71 : UInt8), (69 : UInt8), (84 : UInt8)]), Value.string (ByteArray.mk #[]), Value.string (ByteArray.mk #[]), Value.string (ByteArray.mk #[]), Value.slice none (0 : Nat) (0 : Nat), Value.int IntKind.i64 (0 : Int)])) ∧
     ((Value.agg (Array.mk [Value.string (ByteArray.mk #[(71 : UInt8), (69 : UInt8), (84 : UInt8)]), Value.string (ByteArray.mk #[]), Value.string (ByteArray.mk #[]), Value.string (ByteArray.mk #[]), Value.slice none (0 : Nat) (0 : Nat), Value.int IntKind.i64 (0 : Int)]) = Value.agg (Array.mk [Value.string (ByteArray.mk #[(71 : UInt8), (69 : UInt8), (84 : UInt8)]), Value.string (ByteArray.mk #[]), Value.string (ByteArray.mk #[]), Value.string (ByteArray.mk #[]), Value.slice none (0 : Nat) (0 : Nat), Value.int IntKind.i64 (0 : Int)])) ∧
     (br (decide (within s (100 : Int) (599 : Int) < (200 : Int)))
      ((True) ∧
      (br (false == plain (within s (100 : Int) (599 : Int)))
       (br (decide (within s (100 : Int) (599 : Int) ≥ (200 : Int)))
        (br (within s (100 : Int) (599 : Int) != (206 : Int))
         (br (true == (within s (100 : Int) (599 : Int) != (304 : Int)))
          ((True) ∧
          (End.ret (Value.bool true) = End.ret (Value.bool true)))
          (End.ret (Value.bool false) = End.ret (Value.bool true)))
         (End.ret (Value.bool false) = End.ret (Value.bool true)))
        (End.ret (Value.bool false) = End.ret (Value.bool true)))
       (End.ret (Value.bool false) = End.ret (Value.bool true))))
      (br (within s (100 : Int) (599 : Int) == (206 : Int))
       ((True) ∧
       (br (false == plain (within s (100 : Int) (599 : Int)))
        (br (decide (within s (100 : Int) (599 : Int) ≥ (200 : Int)))
         (br (within s (100 : Int) (599 : Int) != (206 : Int))
          (br (true == (within s (100 : Int) (599 : Int) != (304 : Int)))
           ((True) ∧
           (End.ret (Value.bool true) = End.ret (Value.bool true)))
           (End.ret (Value.bool false) = End.ret (Value.bool true)))
          (End.ret (Value.bool false) = End.ret (Value.bool true)))
         (End.ret (Value.bool false) = End.ret (Value.bool true)))
        (End.ret (Value.bool false) = End.ret (Value.bool true))))
       (br (within s (100 : Int) (599 : Int) == (304 : Int))
        ((True) ∧
        (br (false == plain (within s (100 : Int) (599 : Int)))
         (br (decide (within s (100 : Int) (599 : Int) ≥ (200 : Int)))
          (br (within s (100 : Int) (599 : Int) != (206 : Int))
           (br (true == (within s (100 : Int) (599 : Int) != (304 : Int)))
            ((True) ∧
            (End.ret (Value.bool true) = End.ret (Value.bool true)))
            (End.ret (Value.bool false) = End.ret (Value.bool true)))
           (End.ret (Value.bool false) = End.ret (Value.bool true)))
          (End.ret (Value.bool false) = End.ret (Value.bool true)))
         (End.ret (Value.bool false) = End.ret (Value.bool true))))
        ((Value.slice none (0 : Nat) (0 : Nat) = Value.slice none (0 : Nat) (0 : Nat)) ∧
        ((Value.slice none (0 : Nat) (0 : Nat) = Value.slice none (0 : Nat) (0 : Nat)) ∧
        ((Value.slice none (0 : Nat) (0 : Nat) = Value.slice none (0 : Nat) (0 : Nat)) ∧
        ((True) ∧
        ((True) ∧
        (br (plain (within s (100 : Int) (599 : Int)) == plain (within s (100 : Int) (599 : Int)))
         (br (decide (within s (100 : Int) (599 : Int) ≥ (200 : Int)))
          (br (within s (100 : Int) (599 : Int) != (206 : Int))
           (br (true == (within s (100 : Int) (599 : Int) != (304 : Int)))
            ((True) ∧
            (End.ret (Value.bool true) = End.ret (Value.bool true)))
            (End.ret (Value.bool false) = End.ret (Value.bool true)))
           (End.ret (Value.bool false) = End.ret (Value.bool true)))
          (End.ret (Value.bool false) = End.ret (Value.bool true)))
         (End.ret (Value.bool false) = End.ret (Value.bool true)))))))))))))))))))) := by kernel_rfl

theorem within_ok (n lo hi : Int) (hlo : Small lo) (hhi : Small hi) (h : lo ≤ hi) : Flat Try.prog 15 [.int .i64 n, .int .i64 lo, .int .i64 hi] (.int .i64 (within n lo hi)) :=
  within_flat (E := E0) mixed (calls_bare _) (lok_bare _) (by kernel_rfl) within_vc n lo hi hlo hhi h

theorem runs : Flat Try.prog 3 [] (.bool true) := fun w => run_closed mixed (by kernel_rfl) (args := []) rfl rfl (show ret? (Ev.run Try.prog 1000000 3 [] ⟨.leaf, 0⟩) = some (.bool true) by kernel_rfl) w

theorem plain_ok (k : Int) : Flat Try.prog 17 [.int .i64 k] (.bool (plain k)) := by
  refine flat_vc (E := E0) mixed (calls_bare _) (lok_bare _) (by kernel_rfl) rfl rfl (plain_vc k _) ?_
  unfold plain
  (repeat' (refine br_intro (fun h => ?_) (fun h => ?_))) <;> simp only [*, Bool.true_or, Bool.or_true, Bool.or_self]

theorem plain_in {k : Int} (h : plain k = true) : 200 ≤ k ∧ k ≠ 206 ∧ k ≠ 304 := by
  simp only [plain, Bool.or_eq_true, beq_iff_eq] at h
  omega

theorem calls1 : CallsOk E1.P (oOf E1) := by
  refine calls_flat fun f a h p v h' e hp => ?_
  change T1 f a h = _ at e
  unfold T1 at e
  split at e <;> simp only [Option.some.injEq, Prod.mk.injEq, reduceCtorEq] at e <;> obtain ⟨rfl, rfl, rfl⟩ := e
  · exact ⟨rfl, rfl, rfl, runs⟩
  · exact ⟨rfl, rfl, rfl, plain_ok _⟩
  · exact ⟨rfl, rfl, rfl, within_ok _ _ _ hp.1 hp.2.1 hp.2.2⟩

theorem keep (s : Int) (_ : I64 s) : Flat Try.prog 6 [.int .i64 s] (.bool true) := by
  refine flat_vc (E := E1) mixed calls1 (lok_with _ _) (by kernel_rfl) rfl rfl (keep_vc s) ?_
  have hk := within_bd s 100 599 (by omega)
  have k1 : Small 100 := by unfold Small; omega
  have k2 : Small 599 := by unfold Small; omega
  generalize within s 100 599 = k at *
  have hp := @plain_in k
  by_cases c1 : k < 200
  · have c2 : ¬ 200 ≤ k := by omega
    have p : plain k = false := Bool.eq_false_iff.2 fun h => by have := hp h; omega
    simp [br, k1, k2, c1, c2, p]
  · have c2 : 200 ≤ k := by omega
    by_cases c3 : k = 206
    · have p : plain k = false := Bool.eq_false_iff.2 fun h => by have := hp h; omega
      rw [c3] at p
      simp [br, k1, k2, c3, p]
    · by_cases c4 : k = 304
      · have p : plain k = false := Bool.eq_false_iff.2 fun h => by have := hp h; omega
        rw [c4] at p
        simp [br, k1, k2, c4, p]
      · simp [br, k1, k2, c1, c2, c3, c4]
end Go.Proofs.Ytjodnailnpnpnaa.w
