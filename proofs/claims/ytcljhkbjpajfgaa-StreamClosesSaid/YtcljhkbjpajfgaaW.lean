/- The law on RST_STREAM: it closes each stream that is there. No condition. -/
import Derived.Test.YtcljhkbjpajfgaaSy3
import Derived.Test.YtcljhkbjpajfgaaRows
namespace Go.Proofs.Ytcljhkbjpajfgaa.w
open Go Go.Ev Go.Sy Go.RowKit

def T1 (f : FuncId) (args : List Value) (h : Hp) : Option (Prop × Value × Hp) :=
  match f, args with
  | 3, [] => some (True, .bool true, h)
  | 13, [.int .i64 n, .int .i64 lo, .int .i64 hi] => some (I64 n ∧ Small lo ∧ Small hi ∧ lo ≤ hi, .int .i64 (within n lo hi), h)
  | _, _ => none
noncomputable abbrev E0 : Env := bare Try.prog
noncomputable abbrev E1 : Env := withT Try.prog T1
theorem mixed : Try.prog.follows .mixedOrders = true := by kernel_rfl
theorem within_vc (n lo hi : Int) (v : Value) : scall E0 40 13 [.int .i64 n, .int .i64 lo, .int .i64 hi] ⟨.leaf, 0⟩ (fun r => r.1 = .ret v) =
  (br (IntKind.wrap IntKind.i64 (IntKind.wrap IntKind.i64 (hi - lo) + (1 : Int)) != (0 : Int))
   (br (decide (Int.tmod n (IntKind.wrap IntKind.i64 (IntKind.wrap IntKind.i64 (hi - lo) + (1 : Int))) < (0 : Int)))
    (End.ret (Value.int IntKind.i64 (IntKind.wrap IntKind.i64 (lo + IntKind.wrap IntKind.i64 (IntKind.wrap IntKind.i64 (IntKind.wrap IntKind.i64 (Int.tmod n (IntKind.wrap IntKind.i64 (IntKind.wrap IntKind.i64 (hi - lo) + (1 : Int))) + hi) - lo) + (1 : Int))))) = End.ret v)
    (End.ret (Value.int IntKind.i64 (IntKind.wrap IntKind.i64 (lo + Int.tmod n (IntKind.wrap IntKind.i64 (IntKind.wrap IntKind.i64 (hi - lo) + (1 : Int)))))) = End.ret v))
   False) := by kernel_rfl
theorem closes_vc (s e : Int) (b : Bool) : scall E1 40 7 [.int .i64 s, .int .i64 e, .bool b] ⟨.leaf, 0⟩ (fun r => r.1 = .ret (.bool true)) =
  ((I64 s ∧ Small (0 : Int) ∧ Small (4 : Int) ∧ (0 : Int) ≤ (4 : Int)) ∧
  (br (b)
   (br (within s (0 : Int) (4 : Int) == (0 : Int))
    (br (decide (e > (10 : Int)))
     (br (decide (IntKind.wrap IntKind.i64 (e - (10 : Int)) < (1 : Int)))
      (br (within s (0 : Int) (4 : Int) == (0 : Int))
       ((True) ∧
       (End.ret (Value.bool true) = End.ret (Value.bool true)))
       (End.ret (Value.bool false) = End.ret (Value.bool true)))
      (br (decide (IntKind.wrap IntKind.i64 (e - (10 : Int)) > (5 : Int)))
       (br (within s (0 : Int) (4 : Int) == (0 : Int))
        ((True) ∧
        (End.ret (Value.bool true) = End.ret (Value.bool true)))
        (End.ret (Value.bool false) = End.ret (Value.bool true)))
       (br (within s (0 : Int) (4 : Int) == (0 : Int))
        ((True) ∧
        (End.ret (Value.bool true) = End.ret (Value.bool true)))
        (End.ret (Value.bool false) = End.ret (Value.bool true)))))
     (br (decide (e < (1 : Int)))
      (br (within s (0 : Int) (4 : Int) == (0 : Int))
       ((True) ∧
       (End.ret (Value.bool true) = End.ret (Value.bool true)))
       (End.ret (Value.bool false) = End.ret (Value.bool true)))
      (br (decide (e > (5 : Int)))
       (br (within s (0 : Int) (4 : Int) == (0 : Int))
        ((True) ∧
        (End.ret (Value.bool true) = End.ret (Value.bool true)))
        (End.ret (Value.bool false) = End.ret (Value.bool true)))
       (br (within s (0 : Int) (4 : Int) == (0 : Int))
        ((True) ∧
        (End.ret (Value.bool true) = End.ret (Value.bool true)))
        (End.ret (Value.bool false) = End.ret (Value.bool true))))))
    (br (within s (0 : Int) (4 : Int) == (1 : Int))
     (br (decide (e > (10 : Int)))
      (br (decide (IntKind.wrap IntKind.i64 (e - (10 : Int)) < (1 : Int)))
       (br (within s (0 : Int) (4 : Int) == (0 : Int))
        (End.ret (Value.bool false) = End.ret (Value.bool true))
        (br (true == (within s (0 : Int) (4 : Int) != (4 : Int)))
         ((True) ∧
         (End.ret (Value.bool true) = End.ret (Value.bool true)))
         (End.ret (Value.bool false) = End.ret (Value.bool true))))
       (br (decide (IntKind.wrap IntKind.i64 (e - (10 : Int)) > (5 : Int)))
        (br (within s (0 : Int) (4 : Int) == (0 : Int))
         (End.ret (Value.bool false) = End.ret (Value.bool true))
         (br (true == (within s (0 : Int) (4 : Int) != (4 : Int)))
          ((True) ∧
          (End.ret (Value.bool true) = End.ret (Value.bool true)))
          (End.ret (Value.bool false) = End.ret (Value.bool true))))
        (br (within s (0 : Int) (4 : Int) == (0 : Int))
         (End.ret (Value.bool false) = End.ret (Value.bool true))
         (br (true == (within s (0 : Int) (4 : Int) != (4 : Int)))
          ((True) ∧
          (End.ret (Value.bool true) = End.ret (Value.bool true)))
          (End.ret (Value.bool false) = End.ret (Value.bool true))))))
      (br (decide (e < (1 : Int)))
       (br (within s (0 : Int) (4 : Int) == (0 : Int))
        (End.ret (Value.bool false) = End.ret (Value.bool true))
        (br (true == (within s (0 : Int) (4 : Int) != (4 : Int)))
         ((True) ∧
         (End.ret (Value.bool true) = End.ret (Value.bool true)))
         (End.ret (Value.bool false) = End.ret (Value.bool true))))
       (br (decide (e > (5 : Int)))
        (br (within s (0 : Int) (4 : Int) == (0 : Int))
         (End.ret (Value.bool false) = End.ret (Value.bool true))
         (br (true == (within s (0 : Int) (4 : Int) != (4 : Int)))
          ((True) ∧
          (End.ret (Value.bool true) = End.ret (Value.bool true)))
          (End.ret (Value.bool false) = End.ret (Value.bool true))))
        (br (within s (0 : Int) (4 : Int) == (0 : Int))
         (End.ret (Value.bool false) = End.ret (Value.bool true))
         (br (true == (within s (0 : Int) (4 : Int) != (4 : Int)))
          ((True) ∧
          (End.ret (Value.bool true) = End.ret (Value.bool true)))
          (End.ret (Value.bool false) = End.ret (Value.bool true)))))))
     (br (within s (0 : Int) (4 : Int) == (2 : Int))
      (br (decide (e > (10 : Int)))
       (br (decide (IntKind.wrap IntKind.i64 (e - (10 : Int)) < (1 : Int)))
        (br (within s (0 : Int) (4 : Int) == (0 : Int))
         (End.ret (Value.bool false) = End.ret (Value.bool true))
         (br (true == (within s (0 : Int) (4 : Int) != (4 : Int)))
          ((True) ∧
          (End.ret (Value.bool true) = End.ret (Value.bool true)))
          (End.ret (Value.bool false) = End.ret (Value.bool true))))
        (br (decide (IntKind.wrap IntKind.i64 (e - (10 : Int)) > (5 : Int)))
         (br (within s (0 : Int) (4 : Int) == (0 : Int))
          (End.ret (Value.bool false) = End.ret (Value.bool true))
          (br (true == (within s (0 : Int) (4 : Int) != (4 : Int)))
           ((True) ∧
           (End.ret (Value.bool true) = End.ret (Value.bool true)))
           (End.ret (Value.bool false) = End.ret (Value.bool true))))
         (br (within s (0 : Int) (4 : Int) == (0 : Int))
          (End.ret (Value.bool false) = End.ret (Value.bool true))
          (br (true == (within s (0 : Int) (4 : Int) != (4 : Int)))
           ((True) ∧
           (End.ret (Value.bool true) = End.ret (Value.bool true)))
           (End.ret (Value.bool false) = End.ret (Value.bool true))))))
       (br (decide (e < (1 : Int)))
        (br (within s (0 : Int) (4 : Int) == (0 : Int))
         (End.ret (Value.bool false) = End.ret (Value.bool true))
         (br (true == (within s (0 : Int) (4 : Int) != (4 : Int)))
          ((True) ∧
          (End.ret (Value.bool true) = End.ret (Value.bool true)))
          (End.ret (Value.bool false) = End.ret (Value.bool true))))
        (br (decide (e > (5 : Int)))
         (br (within s (0 : Int) (4 : Int) == (0 : Int))
          (End.ret (Value.bool false) = End.ret (Value.bool true))
          (br (true == (within s (0 : Int) (4 : Int) != (4 : Int)))
           ((True) ∧
           (End.ret (Value.bool true) = End.ret (Value.bool true)))
           (End.ret (Value.bool false) = End.ret (Value.bool true))))
         (br (within s (0 : Int) (4 : Int) == (0 : Int))
          (End.ret (Value.bool false) = End.ret (Value.bool true))
          (br (true == (within s (0 : Int) (4 : Int) != (4 : Int)))
           ((True) ∧
           (End.ret (Value.bool true) = End.ret (Value.bool true)))
           (End.ret (Value.bool false) = End.ret (Value.bool true)))))))
      (br (within s (0 : Int) (4 : Int) == (3 : Int))
       (br (decide (e > (10 : Int)))
        (br (decide (IntKind.wrap IntKind.i64 (e - (10 : Int)) < (1 : Int)))
         (br (within s (0 : Int) (4 : Int) == (0 : Int))
          (End.ret (Value.bool false) = End.ret (Value.bool true))
          (br (true == (within s (0 : Int) (4 : Int) != (4 : Int)))
           ((True) ∧
           (End.ret (Value.bool true) = End.ret (Value.bool true)))
           (End.ret (Value.bool false) = End.ret (Value.bool true))))
         (br (decide (IntKind.wrap IntKind.i64 (e - (10 : Int)) > (5 : Int)))
          (br (within s (0 : Int) (4 : Int) == (0 : Int))
           (End.ret (Value.bool false) = End.ret (Value.bool true))
           (br (true == (within s (0 : Int) (4 : Int) != (4 : Int)))
            ((True) ∧
            (End.ret (Value.bool true) = End.ret (Value.bool true)))
            (End.ret (Value.bool false) = End.ret (Value.bool true))))
          (br (within s (0 : Int) (4 : Int) == (0 : Int))
           (End.ret (Value.bool false) = End.ret (Value.bool true))
           (br (true == (within s (0 : Int) (4 : Int) != (4 : Int)))
            ((True) ∧
            (End.ret (Value.bool true) = End.ret (Value.bool true)))
            (End.ret (Value.bool false) = End.ret (Value.bool true))))))
        (br (decide (e < (1 : Int)))
         (br (within s (0 : Int) (4 : Int) == (0 : Int))
          (End.ret (Value.bool false) = End.ret (Value.bool true))
          (br (true == (within s (0 : Int) (4 : Int) != (4 : Int)))
           ((True) ∧
           (End.ret (Value.bool true) = End.ret (Value.bool true)))
           (End.ret (Value.bool false) = End.ret (Value.bool true))))
         (br (decide (e > (5 : Int)))
          (br (within s (0 : Int) (4 : Int) == (0 : Int))
           (End.ret (Value.bool false) = End.ret (Value.bool true))
           (br (true == (within s (0 : Int) (4 : Int) != (4 : Int)))
            ((True) ∧
            (End.ret (Value.bool true) = End.ret (Value.bool true)))
            (End.ret (Value.bool false) = End.ret (Value.bool true))))
          (br (within s (0 : Int) (4 : Int) == (0 : Int))
           (End.ret (Value.bool false) = End.ret (Value.bool true))
           (br (true == (within s (0 : Int) (4 : Int) != (4 : Int)))
            ((True) ∧
            (End.ret (Value.bool true) = End.ret (Value.bool true)))
            (End.ret (Value.bool false) = End.ret (Value.bool true)))))))
       (br (decide (e > (10 : Int)))
        (br (decide (IntKind.wrap IntKind.i64 (e - (10 : Int)) < (1 : Int)))
         (br (within s (0 : Int) (4 : Int) == (0 : Int))
          (br (within s (0 : Int) (4 : Int) == (0 : Int))
           ((True) ∧
           (End.ret (Value.bool true) = End.ret (Value.bool true)))
           (End.ret (Value.bool false) = End.ret (Value.bool true)))
          (br (within s (0 : Int) (4 : Int) == (4 : Int))
           (br (false == (within s (0 : Int) (4 : Int) != (4 : Int)))
            ((True) ∧
            (End.ret (Value.bool true) = End.ret (Value.bool true)))
            (End.ret (Value.bool false) = End.ret (Value.bool true)))
           (End.ret (Value.bool false) = End.ret (Value.bool true))))
         (br (decide (IntKind.wrap IntKind.i64 (e - (10 : Int)) > (5 : Int)))
          (br (within s (0 : Int) (4 : Int) == (0 : Int))
           (br (within s (0 : Int) (4 : Int) == (0 : Int))
            ((True) ∧
            (End.ret (Value.bool true) = End.ret (Value.bool true)))
            (End.ret (Value.bool false) = End.ret (Value.bool true)))
           (br (within s (0 : Int) (4 : Int) == (4 : Int))
            (br (false == (within s (0 : Int) (4 : Int) != (4 : Int)))
             ((True) ∧
             (End.ret (Value.bool true) = End.ret (Value.bool true)))
             (End.ret (Value.bool false) = End.ret (Value.bool true)))
            (End.ret (Value.bool false) = End.ret (Value.bool true))))
          (br (within s (0 : Int) (4 : Int) == (0 : Int))
           (br (within s (0 : Int) (4 : Int) == (0 : Int))
            ((True) ∧
            (End.ret (Value.bool true) = End.ret (Value.bool true)))
            (End.ret (Value.bool false) = End.ret (Value.bool true)))
           (br (within s (0 : Int) (4 : Int) == (4 : Int))
            (br (false == (within s (0 : Int) (4 : Int) != (4 : Int)))
             ((True) ∧
             (End.ret (Value.bool true) = End.ret (Value.bool true)))
             (End.ret (Value.bool false) = End.ret (Value.bool true)))
            (End.ret (Value.bool false) = End.ret (Value.bool true))))))
        (br (decide (e < (1 : Int)))
         (br (within s (0 : Int) (4 : Int) == (0 : Int))
          (br (within s (0 : Int) (4 : Int) == (0 : Int))
           ((True) ∧
           (End.ret (Value.bool true) = End.ret (Value.bool true)))
           (End.ret (Value.bool false) = End.ret (Value.bool true)))
          (br (within s (0 : Int) (4 : Int) == (4 : Int))
           (br (false == (within s (0 : Int) (4 : Int) != (4 : Int)))
            ((True) ∧
            (End.ret (Value.bool true) = End.ret (Value.bool true)))
            (End.ret (Value.bool false) = End.ret (Value.bool true)))
           (End.ret (Value.bool false) = End.ret (Value.bool true))))
         (br (decide (e > (5 : Int)))
          (br (within s (0 : Int) (4 : Int) == (0 : Int))
           (br (within s (0 : Int) (4 : Int) == (0 : Int))
            ((True) ∧
            (End.ret (Value.bool true) = End.ret (Value.bool true)))
            (End.ret (Value.bool false) = End.ret (Value.bool true)))
           (br (within s (0 : Int) (4 : Int) == (4 : Int))
            (br (false == (within s (0 : Int) (4 : Int) != (4 : Int)))
             ((True) ∧
             (End.ret (Value.bool true) = End.ret (Value.bool true)))
             (End.ret (Value.bool false) = End.ret (Value.bool true)))
            (End.ret (Value.bool false) = End.ret (Value.bool true))))
          (br (within s (0 : Int) (4 : Int) == (0 : Int))
           (br (within s (0 : Int) (4 : Int) == (0 : Int))
            ((True) ∧
            (End.ret (Value.bool true) = End.ret (Value.bool true)))
            (End.ret (Value.bool false) = End.ret (Value.bool true)))
           (br (within s (0 : Int) (4 : Int) == (4 : Int))
            (br (false == (within s (0 : Int) (4 : Int) != (4 : Int)))
             ((True) ∧
             (End.ret (Value.bool true) = End.ret (Value.bool true)))
             (End.ret (Value.bool false) = End.ret (Value.bool true)))
            (End.ret (Value.bool false) = End.ret (Value.bool true)))))))))))
   (br (within s (0 : Int) (4 : Int) == (0 : Int))
    (br (decide (e > (10 : Int)))
     (br (decide (IntKind.wrap IntKind.i64 (e - (10 : Int)) < (1 : Int)))
      (br (within s (0 : Int) (4 : Int) == (0 : Int))
       ((True) ∧
       (End.ret (Value.bool true) = End.ret (Value.bool true)))
       (End.ret (Value.bool false) = End.ret (Value.bool true)))
      (br (decide (IntKind.wrap IntKind.i64 (e - (10 : Int)) > (5 : Int)))
       (br (within s (0 : Int) (4 : Int) == (0 : Int))
        ((True) ∧
        (End.ret (Value.bool true) = End.ret (Value.bool true)))
        (End.ret (Value.bool false) = End.ret (Value.bool true)))
       (br (within s (0 : Int) (4 : Int) == (0 : Int))
        ((True) ∧
        (End.ret (Value.bool true) = End.ret (Value.bool true)))
        (End.ret (Value.bool false) = End.ret (Value.bool true)))))
     (br (decide (e < (1 : Int)))
      (br (within s (0 : Int) (4 : Int) == (0 : Int))
       ((True) ∧
       (End.ret (Value.bool true) = End.ret (Value.bool true)))
       (End.ret (Value.bool false) = End.ret (Value.bool true)))
      (br (decide (e > (5 : Int)))
       (br (within s (0 : Int) (4 : Int) == (0 : Int))
        ((True) ∧
        (End.ret (Value.bool true) = End.ret (Value.bool true)))
        (End.ret (Value.bool false) = End.ret (Value.bool true)))
       (br (within s (0 : Int) (4 : Int) == (0 : Int))
        ((True) ∧
        (End.ret (Value.bool true) = End.ret (Value.bool true)))
        (End.ret (Value.bool false) = End.ret (Value.bool true))))))
    (br (within s (0 : Int) (4 : Int) == (1 : Int))
     (br (decide (e > (10 : Int)))
      (br (decide (IntKind.wrap IntKind.i64 (e - (10 : Int)) < (1 : Int)))
       (br (within s (0 : Int) (4 : Int) == (0 : Int))
        (End.ret (Value.bool false) = End.ret (Value.bool true))
        (br (true == (within s (0 : Int) (4 : Int) != (4 : Int)))
         ((True) ∧
         (End.ret (Value.bool true) = End.ret (Value.bool true)))
         (End.ret (Value.bool false) = End.ret (Value.bool true))))
       (br (decide (IntKind.wrap IntKind.i64 (e - (10 : Int)) > (5 : Int)))
        (br (within s (0 : Int) (4 : Int) == (0 : Int))
         (End.ret (Value.bool false) = End.ret (Value.bool true))
         (br (true == (within s (0 : Int) (4 : Int) != (4 : Int)))
          ((True) ∧
          (End.ret (Value.bool true) = End.ret (Value.bool true)))
          (End.ret (Value.bool false) = End.ret (Value.bool true))))
        (br (within s (0 : Int) (4 : Int) == (0 : Int))
         (End.ret (Value.bool false) = End.ret (Value.bool true))
         (br (true == (within s (0 : Int) (4 : Int) != (4 : Int)))
          ((True) ∧
          (End.ret (Value.bool true) = End.ret (Value.bool true)))
          (End.ret (Value.bool false) = End.ret (Value.bool true))))))
      (br (decide (e < (1 : Int)))
       (br (within s (0 : Int) (4 : Int) == (0 : Int))
        (End.ret (Value.bool false) = End.ret (Value.bool true))
        (br (true == (within s (0 : Int) (4 : Int) != (4 : Int)))
         ((True) ∧
         (End.ret (Value.bool true) = End.ret (Value.bool true)))
         (End.ret (Value.bool false) = End.ret (Value.bool true))))
       (br (decide (e > (5 : Int)))
        (br (within s (0 : Int) (4 : Int) == (0 : Int))
         (End.ret (Value.bool false) = End.ret (Value.bool true))
         (br (true == (within s (0 : Int) (4 : Int) != (4 : Int)))
          ((True) ∧
          (End.ret (Value.bool true) = End.ret (Value.bool true)))
          (End.ret (Value.bool false) = End.ret (Value.bool true))))
        (br (within s (0 : Int) (4 : Int) == (0 : Int))
         (End.ret (Value.bool false) = End.ret (Value.bool true))
         (br (true == (within s (0 : Int) (4 : Int) != (4 : Int)))
          ((True) ∧
          (End.ret (Value.bool true) = End.ret (Value.bool true)))
          (End.ret (Value.bool false) = End.ret (Value.bool true)))))))
     (br (within s (0 : Int) (4 : Int) == (2 : Int))
      (br (decide (e > (10 : Int)))
       (br (decide (IntKind.wrap IntKind.i64 (e - (10 : Int)) < (1 : Int)))
        (br (within s (0 : Int) (4 : Int) == (0 : Int))
         (End.ret (Value.bool false) = End.ret (Value.bool true))
         (br (true == (within s (0 : Int) (4 : Int) != (4 : Int)))
          ((True) ∧
          (End.ret (Value.bool true) = End.ret (Value.bool true)))
          (End.ret (Value.bool false) = End.ret (Value.bool true))))
        (br (decide (IntKind.wrap IntKind.i64 (e - (10 : Int)) > (5 : Int)))
         (br (within s (0 : Int) (4 : Int) == (0 : Int))
          (End.ret (Value.bool false) = End.ret (Value.bool true))
          (br (true == (within s (0 : Int) (4 : Int) != (4 : Int)))
           ((True) ∧
           (End.ret (Value.bool true) = End.ret (Value.bool true)))
           (End.ret (Value.bool false) = End.ret (Value.bool true))))
         (br (within s (0 : Int) (4 : Int) == (0 : Int))
          (End.ret (Value.bool false) = End.ret (Value.bool true))
          (br (true == (within s (0 : Int) (4 : Int) != (4 : Int)))
           ((True) ∧
           (End.ret (Value.bool true) = End.ret (Value.bool true)))
           (End.ret (Value.bool false) = End.ret (Value.bool true))))))
       (br (decide (e < (1 : Int)))
        (br (within s (0 : Int) (4 : Int) == (0 : Int))
         (End.ret (Value.bool false) = End.ret (Value.bool true))
         (br (true == (within s (0 : Int) (4 : Int) != (4 : Int)))
          ((True) ∧
          (End.ret (Value.bool true) = End.ret (Value.bool true)))
          (End.ret (Value.bool false) = End.ret (Value.bool true))))
        (br (decide (e > (5 : Int)))
         (br (within s (0 : Int) (4 : Int) == (0 : Int))
          (End.ret (Value.bool false) = End.ret (Value.bool true))
          (br (true == (within s (0 : Int) (4 : Int) != (4 : Int)))
           ((True) ∧
           (End.ret (Value.bool true) = End.ret (Value.bool true)))
           (End.ret (Value.bool false) = End.ret (Value.bool true))))
         (br (within s (0 : Int) (4 : Int) == (0 : Int))
          (End.ret (Value.bool false) = End.ret (Value.bool true))
          (br (true == (within s (0 : Int) (4 : Int) != (4 : Int)))
           ((True) ∧
           (End.ret (Value.bool true) = End.ret (Value.bool true)))
           (End.ret (Value.bool false) = End.ret (Value.bool true)))))))
      (br (within s (0 : Int) (4 : Int) == (3 : Int))
       (br (decide (e > (10 : Int)))
        (br (decide (IntKind.wrap IntKind.i64 (e - (10 : Int)) < (1 : Int)))
         (br (within s (0 : Int) (4 : Int) == (0 : Int))
          (End.ret (Value.bool false) = End.ret (Value.bool true))
          (br (true == (within s (0 : Int) (4 : Int) != (4 : Int)))
           ((True) ∧
           (End.ret (Value.bool true) = End.ret (Value.bool true)))
           (End.ret (Value.bool false) = End.ret (Value.bool true))))
         (br (decide (IntKind.wrap IntKind.i64 (e - (10 : Int)) > (5 : Int)))
          (br (within s (0 : Int) (4 : Int) == (0 : Int))
           (End.ret (Value.bool false) = End.ret (Value.bool true))
           (br (true == (within s (0 : Int) (4 : Int) != (4 : Int)))
            ((True) ∧
            (End.ret (Value.bool true) = End.ret (Value.bool true)))
            (End.ret (Value.bool false) = End.ret (Value.bool true))))
          (br (within s (0 : Int) (4 : Int) == (0 : Int))
           (End.ret (Value.bool false) = End.ret (Value.bool true))
           (br (true == (within s (0 : Int) (4 : Int) != (4 : Int)))
            ((True) ∧
            (End.ret (Value.bool true) = End.ret (Value.bool true)))
            (End.ret (Value.bool false) = End.ret (Value.bool true))))))
        (br (decide (e < (1 : Int)))
         (br (within s (0 : Int) (4 : Int) == (0 : Int))
          (End.ret (Value.bool false) = End.ret (Value.bool true))
          (br (true == (within s (0 : Int) (4 : Int) != (4 : Int)))
           ((True) ∧
           (End.ret (Value.bool true) = End.ret (Value.bool true)))
           (End.ret (Value.bool false) = End.ret (Value.bool true))))
         (br (decide (e > (5 : Int)))
          (br (within s (0 : Int) (4 : Int) == (0 : Int))
           (End.ret (Value.bool false) = End.ret (Value.bool true))
           (br (true == (within s (0 : Int) (4 : Int) != (4 : Int)))
            ((True) ∧
            (End.ret (Value.bool true) = End.ret (Value.bool true)))
            (End.ret (Value.bool false) = End.ret (Value.bool true))))
          (br (within s (0 : Int) (4 : Int) == (0 : Int))
           (End.ret (Value.bool false) = End.ret (Value.bool true))
           (br (true == (within s (0 : Int) (4 : Int) != (4 : Int)))
            ((True) ∧
            (End.ret (Value.bool true) = End.ret (Value.bool true)))
            (End.ret (Value.bool false) = End.ret (Value.bool true)))))))
       (br (decide (e > (10 : Int)))
        (br (decide (IntKind.wrap IntKind.i64 (e - (10 : Int)) < (1 : Int)))
         (br (within s (0 : Int) (4 : Int) == (0 : Int))
          (br (within s (0 : Int) (4 : Int) == (0 : Int))
           ((True) ∧
           (End.ret (Value.bool true) = End.ret (Value.bool true)))
           (End.ret (Value.bool false) = End.ret (Value.bool true)))
          (br (within s (0 : Int) (4 : Int) == (4 : Int))
           (br (false == (within s (0 : Int) (4 : Int) != (4 : Int)))
            ((True) ∧
            (End.ret (Value.bool true) = End.ret (Value.bool true)))
            (End.ret (Value.bool false) = End.ret (Value.bool true)))
           (End.ret (Value.bool false) = End.ret (Value.bool true))))
         (br (decide (IntKind.wrap IntKind.i64 (e - (10 : Int)) > (5 : Int)))
          (br (within s (0 : Int) (4 : Int) == (0 : Int))
           (br (within s (0 : Int) (4 : Int) == (0 : Int))
            ((True) ∧
            (End.ret (Value.bool true) = End.ret (Value.bool true)))
            (End.ret (Value.bool false) = End.ret (Value.bool true)))
           (br (within s (0 : Int) (4 : Int) == (4 : Int))
            (br (false == (within s (0 : Int) (4 : Int) != (4 : Int)))
             ((True) ∧
             (End.ret (Value.bool true) = End.ret (Value.bool true)))
             (End.ret (Value.bool false) = End.ret (Value.bool true)))
            (End.ret (Value.bool false) = End.ret (Value.bool true))))
          (br (within s (0 : Int) (4 : Int) == (0 : Int))
           (br (within s (0 : Int) (4 : Int) == (0 : Int))
            ((True) ∧
            (End.ret (Value.bool true) = End.ret (Value.bool true)))
            (End.ret (Value.bool false) = End.ret (Value.bool true)))
           (br (within s (0 : Int) (4 : Int) == (4 : Int))
            (br (false == (within s (0 : Int) (4 : Int) != (4 : Int)))
             ((True) ∧
             (End.ret (Value.bool true) = End.ret (Value.bool true)))
             (End.ret (Value.bool false) = End.ret (Value.bool true)))
            (End.ret (Value.bool false) = End.ret (Value.bool true))))))
        (br (decide (e < (1 : Int)))
         (br (within s (0 : Int) (4 : Int) == (0 : Int))
          (br (within s (0 : Int) (4 : Int) == (0 : Int))
           ((True) ∧
           (End.ret (Value.bool true) = End.ret (Value.bool true)))
           (End.ret (Value.bool false) = End.ret (Value.bool true)))
          (br (within s (0 : Int) (4 : Int) == (4 : Int))
           (br (false == (within s (0 : Int) (4 : Int) != (4 : Int)))
            ((True) ∧
            (End.ret (Value.bool true) = End.ret (Value.bool true)))
            (End.ret (Value.bool false) = End.ret (Value.bool true)))
           (End.ret (Value.bool false) = End.ret (Value.bool true))))
         (br (decide (e > (5 : Int)))
          (br (within s (0 : Int) (4 : Int) == (0 : Int))
           (br (within s (0 : Int) (4 : Int) == (0 : Int))
            ((True) ∧
            (End.ret (Value.bool true) = End.ret (Value.bool true)))
            (End.ret (Value.bool false) = End.ret (Value.bool true)))
           (br (within s (0 : Int) (4 : Int) == (4 : Int))
            (br (false == (within s (0 : Int) (4 : Int) != (4 : Int)))
             ((True) ∧
             (End.ret (Value.bool true) = End.ret (Value.bool true)))
             (End.ret (Value.bool false) = End.ret (Value.bool true)))
            (End.ret (Value.bool false) = End.ret (Value.bool true))))
          (br (within s (0 : Int) (4 : Int) == (0 : Int))
           (br (within s (0 : Int) (4 : Int) == (0 : Int))
            ((True) ∧
            (End.ret (Value.bool true) = End.ret (Value.bool true)))
            (End.ret (Value.bool false) = End.ret (Value.bool true)))
           (br (within s (0 : Int) (4 : Int) == (4 : Int))
            (br (false == (within s (0 : Int) (4 : Int) != (4 : Int)))
             ((True) ∧
             (End.ret (Value.bool true) = End.ret (Value.bool true)))
             (End.ret (Value.bool false) = End.ret (Value.bool true)))
            (End.ret (Value.bool false) = End.ret (Value.bool true))))))))))))) := by kernel_rfl

theorem within_ok (n lo hi : Int) (hlo : Small lo) (hhi : Small hi) (h : lo ≤ hi) : Flat Try.prog 13 [.int .i64 n, .int .i64 lo, .int .i64 hi] (.int .i64 (within n lo hi)) :=
  within_flat (E := E0) mixed (calls_bare _) (lok_bare _) (by kernel_rfl) within_vc n lo hi hlo hhi h

theorem runs : Flat Try.prog 3 [] (.bool true) := fun w => run_closed mixed (by kernel_rfl) (args := []) rfl rfl (show ret? (Ev.run Try.prog 1000000 3 [] ⟨.leaf, 0⟩) = some (.bool true) by kernel_rfl) w

theorem calls1 : CallsOk E1.P (oOf E1) := by
  refine calls_flat fun f a h p v h' e hp => ?_
  change T1 f a h = _ at e
  unfold T1 at e
  split at e <;> simp only [Option.some.injEq, Prod.mk.injEq, reduceCtorEq] at e <;> obtain ⟨rfl, rfl, rfl⟩ := e
  · exact ⟨rfl, rfl, rfl, runs⟩
  · exact ⟨rfl, rfl, rfl, within_ok _ _ _ hp.2.1 hp.2.2.1 hp.2.2.2⟩

theorem closes (s e : Int) (b : Bool) (hs : I64 s) (he : I64 e) : Flat Try.prog 7 [.int .i64 s, .int .i64 e, .bool b] (.bool true) := by
  refine flat_vc (E := E1) mixed calls1 (lok_with _ _) (by kernel_rfl) rfl rfl (closes_vc s e b) ?_
  have hb := within_bd s 0 4 (by omega)
  have c0 : Small 0 := by unfold Small; omega
  have c4 : Small 4 := by unfold Small; omega
  refine ⟨⟨hs, c0, c4, by omega⟩, ?_⟩
  generalize within s 0 4 = k at *
  unfold I64 at he
  have hk : k = 0 ∨ k = 1 ∨ k = 2 ∨ k = 3 ∨ k = 4 := by omega
  rcases hk with rfl | rfl | rfl | rfl | rfl
  all_goals (repeat' (first | refine br_intro (fun h => ?_) (fun h => ?_) | refine And.intro trivial ?_)) <;> simp only [decide_eq_true_eq, decide_eq_false_iff_not, wr64, beq_iff_eq, beq_eq_false_iff_ne] at * <;> first | rfl | (exfalso; omega) | (simp at *; done)
end Go.Proofs.Ytcljhkbjpajfgaa.w
