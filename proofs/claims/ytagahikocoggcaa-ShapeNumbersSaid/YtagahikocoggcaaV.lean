/- The law on the numbers that frames tell. No condition. -/
import Derived.Test.YtagahikocoggcaaSy3
import Derived.Test.YtagahikocoggcaaRows
namespace Go.Proofs.Ytagahikocoggcaa.n
open Go Go.Ev Go.Sy Go.RowKit
def T1 (f : FuncId) (args : List Value) (h : Hp) : Option (Prop × Value × Hp) :=
  match f, args with
  | 3, [] => some (True, .bool true, h)
  | 17, [.int .i64 n, .int .i64 lo, .int .i64 hi] => some (Small lo ∧ Small hi ∧ lo ≤ hi, .int .i64 (within n lo hi), h)
  | _, _ => none
/-- Code that is never reached: its condition is False. -/
def cut : FuncId → List Nat → Option Sy.Spec := fun f p => bif (Nat.beq f 10 && (decide (p = [0, 1, 0, 1, 1]) || decide (p = [0, 1, 0, 1, 1, 1]))) || (Nat.beq f 38 && decide (p = [0, 1, 0, 1, 1, 1, 1])) then some (fun _ _ _ _ => False) else none
noncomputable abbrev E0 : Env := bare Try.prog
noncomputable abbrev E2 : Env := { P := Try.prog, T := T1, L := cut, sy := fun _ => false }
theorem mixed : Try.prog.follows .mixedOrders = true := by kernel_rfl
theorem within_vc (n lo hi : Int) (v : Value) : scall E0 40 17 [.int .i64 n, .int .i64 lo, .int .i64 hi] ⟨.leaf, 0⟩ (fun r => r.1 = .ret v) =
  (br (IntKind.wrap IntKind.i64 (IntKind.wrap IntKind.i64 (hi - lo) + (1 : Int)) != (0 : Int))
   (br (decide (Int.tmod n (IntKind.wrap IntKind.i64 (IntKind.wrap IntKind.i64 (hi - lo) + (1 : Int))) < (0 : Int)))
    (End.ret (Value.int IntKind.i64 (IntKind.wrap IntKind.i64 (lo + IntKind.wrap IntKind.i64 (IntKind.wrap IntKind.i64 (IntKind.wrap IntKind.i64 (Int.tmod n (IntKind.wrap IntKind.i64 (IntKind.wrap IntKind.i64 (hi - lo) + (1 : Int))) + hi) - lo) + (1 : Int))))) = End.ret v)
    (End.ret (Value.int IntKind.i64 (IntKind.wrap IntKind.i64 (lo + Int.tmod n (IntKind.wrap IntKind.i64 (IntKind.wrap IntKind.i64 (hi - lo) + (1 : Int)))))) = End.ret v))
   False) := by kernel_rfl
theorem num_vc (a b : Int) (s : Int) : scall E2 60 9 [.int .u32 a, .int .u32 b, .int .i64 s] ⟨.leaf, 0⟩ (fun r => r.1 = .ret (.bool true)) =
  ((Small (1 : Int) ∧ Small (2147483647 : Int) ∧ (1 : Int) ≤ (2147483647 : Int)) ∧
  (br (decide (within s (1 : Int) (2147483647 : Int) ≥ (0 : Int)))
   (br (decide (within s (1 : Int) (2147483647 : Int) ≤ (2147483647 : Int)))
    (br (within s (1 : Int) (2147483647 : Int) == (0 : Int))
     False
     ((Value.int IntKind.u8 (IntKind.wrap IntKind.u8 (Int.fdiv a (16777216 : Int))) = Value.int IntKind.u8 (IntKind.wrap IntKind.u8 (Int.fdiv a (16777216 : Int)))) ∧
     ((Value.int IntKind.i64 (IntKind.wrap IntKind.i64 (IntKind.wrap IntKind.u8 (Int.fdiv a (16777216 : Int)))) = Value.int IntKind.i64 (IntKind.wrap IntKind.i64 (IntKind.wrap IntKind.u8 (Int.fdiv a (16777216 : Int))))) ∧
     ((Value.int IntKind.u8 (IntKind.wrap IntKind.u8 (Int.fdiv a (65536 : Int))) = Value.int IntKind.u8 (IntKind.wrap IntKind.u8 (Int.fdiv a (65536 : Int)))) ∧
     ((Value.int IntKind.i64 (IntKind.wrap IntKind.i64 (IntKind.wrap IntKind.u8 (Int.fdiv a (65536 : Int)))) = Value.int IntKind.i64 (IntKind.wrap IntKind.i64 (IntKind.wrap IntKind.u8 (Int.fdiv a (65536 : Int))))) ∧
     ((Value.int IntKind.u8 (IntKind.wrap IntKind.u8 (Int.fdiv a (256 : Int))) = Value.int IntKind.u8 (IntKind.wrap IntKind.u8 (Int.fdiv a (256 : Int)))) ∧
     ((Value.int IntKind.i64 (IntKind.wrap IntKind.i64 (IntKind.wrap IntKind.u8 (Int.fdiv a (256 : Int)))) = Value.int IntKind.i64 (IntKind.wrap IntKind.i64 (IntKind.wrap IntKind.u8 (Int.fdiv a (256 : Int))))) ∧
     ((Value.int IntKind.u8 (IntKind.wrap IntKind.u8 a) = Value.int IntKind.u8 (IntKind.wrap IntKind.u8 a)) ∧
     ((Value.int IntKind.i64 (IntKind.wrap IntKind.i64 (IntKind.wrap IntKind.u8 a)) = Value.int IntKind.i64 (IntKind.wrap IntKind.i64 (IntKind.wrap IntKind.u8 a))) ∧
     (br (decide (within s (1 : Int) (2147483647 : Int) ≥ (0 : Int)))
      (br (decide (within s (1 : Int) (2147483647 : Int) ≤ (2147483647 : Int)))
       ((Value.int IntKind.u8 (IntKind.wrap IntKind.u8 (Int.fdiv a (16777216 : Int))) = Value.int IntKind.u8 (IntKind.wrap IntKind.u8 (Int.fdiv a (16777216 : Int)))) ∧
       ((Value.int IntKind.i64 (IntKind.wrap IntKind.i64 (IntKind.wrap IntKind.u8 (Int.fdiv a (16777216 : Int)))) = Value.int IntKind.i64 (IntKind.wrap IntKind.i64 (IntKind.wrap IntKind.u8 (Int.fdiv a (16777216 : Int))))) ∧
       ((Value.int IntKind.u8 (IntKind.wrap IntKind.u8 (Int.fdiv a (65536 : Int))) = Value.int IntKind.u8 (IntKind.wrap IntKind.u8 (Int.fdiv a (65536 : Int)))) ∧
       ((Value.int IntKind.i64 (IntKind.wrap IntKind.i64 (IntKind.wrap IntKind.u8 (Int.fdiv a (65536 : Int)))) = Value.int IntKind.i64 (IntKind.wrap IntKind.i64 (IntKind.wrap IntKind.u8 (Int.fdiv a (65536 : Int))))) ∧
       ((Value.int IntKind.u8 (IntKind.wrap IntKind.u8 (Int.fdiv a (256 : Int))) = Value.int IntKind.u8 (IntKind.wrap IntKind.u8 (Int.fdiv a (256 : Int)))) ∧
       ((Value.int IntKind.i64 (IntKind.wrap IntKind.i64 (IntKind.wrap IntKind.u8 (Int.fdiv a (256 : Int)))) = Value.int IntKind.i64 (IntKind.wrap IntKind.i64 (IntKind.wrap IntKind.u8 (Int.fdiv a (256 : Int))))) ∧
       ((Value.int IntKind.u8 (IntKind.wrap IntKind.u8 a) = Value.int IntKind.u8 (IntKind.wrap IntKind.u8 a)) ∧
       ((Value.int IntKind.i64 (IntKind.wrap IntKind.i64 (IntKind.wrap IntKind.u8 a)) = Value.int IntKind.i64 (IntKind.wrap IntKind.i64 (IntKind.wrap IntKind.u8 a))) ∧
       (br (decide (IntKind.wrap IntKind.i64 ↑(BitVec.toNat (BitVec.ofInt (IntKind.bits IntKind.i64) (IntKind.wrap IntKind.i64 ↑(BitVec.toNat (BitVec.ofInt (IntKind.bits IntKind.i64) (IntKind.wrap IntKind.i64 ↑(BitVec.toNat (BitVec.ofInt (IntKind.bits IntKind.i64) (IntKind.wrap IntKind.i64 ↑(BitVec.toNat (BitVec.ofInt (IntKind.bits IntKind.i64) (IntKind.wrap IntKind.i64 (IntKind.wrap IntKind.i64 (IntKind.wrap IntKind.u8 (Int.fdiv a ((2 : Int) ^ min (Int.toNat (24 : Int)) (IntKind.bits IntKind.u32)))) * (2 : Int) ^ min (Int.toNat (24 : Int)) (IntKind.bits IntKind.i64))) ||| BitVec.ofInt (IntKind.bits IntKind.i64) (IntKind.wrap IntKind.i64 (IntKind.wrap IntKind.i64 (IntKind.wrap IntKind.u8 (Int.fdiv a ((2 : Int) ^ min (Int.toNat (16 : Int)) (IntKind.bits IntKind.u32)))) * (2 : Int) ^ min (Int.toNat (16 : Int)) (IntKind.bits IntKind.i64)))))) ||| BitVec.ofInt (IntKind.bits IntKind.i64) (IntKind.wrap IntKind.i64 (IntKind.wrap IntKind.i64 (IntKind.wrap IntKind.u8 (Int.fdiv a ((2 : Int) ^ min (Int.toNat (8 : Int)) (IntKind.bits IntKind.u32)))) * (2 : Int) ^ min (Int.toNat (8 : Int)) (IntKind.bits IntKind.i64)))))) ||| BitVec.ofInt (IntKind.bits IntKind.i64) (IntKind.wrap IntKind.i64 (IntKind.wrap IntKind.u8 a))))) &&& BitVec.ofInt (IntKind.bits IntKind.i64) (2147483647 : Int))) > (0 : Int)))
        ((Value.int IntKind.u8 (IntKind.wrap IntKind.u8 (Int.fdiv a (16777216 : Int))) = Value.int IntKind.u8 (IntKind.wrap IntKind.u8 (Int.fdiv a (16777216 : Int)))) ∧
        ((Value.int IntKind.i64 (IntKind.wrap IntKind.i64 (IntKind.wrap IntKind.u8 (Int.fdiv a (16777216 : Int)))) = Value.int IntKind.i64 (IntKind.wrap IntKind.i64 (IntKind.wrap IntKind.u8 (Int.fdiv a (16777216 : Int))))) ∧
        ((Value.int IntKind.u8 (IntKind.wrap IntKind.u8 (Int.fdiv a (65536 : Int))) = Value.int IntKind.u8 (IntKind.wrap IntKind.u8 (Int.fdiv a (65536 : Int)))) ∧
        ((Value.int IntKind.i64 (IntKind.wrap IntKind.i64 (IntKind.wrap IntKind.u8 (Int.fdiv a (65536 : Int)))) = Value.int IntKind.i64 (IntKind.wrap IntKind.i64 (IntKind.wrap IntKind.u8 (Int.fdiv a (65536 : Int))))) ∧
        ((Value.int IntKind.u8 (IntKind.wrap IntKind.u8 (Int.fdiv a (256 : Int))) = Value.int IntKind.u8 (IntKind.wrap IntKind.u8 (Int.fdiv a (256 : Int)))) ∧
        ((Value.int IntKind.i64 (IntKind.wrap IntKind.i64 (IntKind.wrap IntKind.u8 (Int.fdiv a (256 : Int)))) = Value.int IntKind.i64 (IntKind.wrap IntKind.i64 (IntKind.wrap IntKind.u8 (Int.fdiv a (256 : Int))))) ∧
        ((Value.int IntKind.u8 (IntKind.wrap IntKind.u8 a) = Value.int IntKind.u8 (IntKind.wrap IntKind.u8 a)) ∧
        ((Value.int IntKind.i64 (IntKind.wrap IntKind.i64 (IntKind.wrap IntKind.u8 a)) = Value.int IntKind.i64 (IntKind.wrap IntKind.i64 (IntKind.wrap IntKind.u8 a))) ∧
        ((Value.int IntKind.u8 (IntKind.wrap IntKind.u8 (Int.fdiv b (16777216 : Int))) = Value.int IntKind.u8 (IntKind.wrap IntKind.u8 (Int.fdiv b (16777216 : Int)))) ∧
        ((Value.int IntKind.i64 (IntKind.wrap IntKind.i64 (IntKind.wrap IntKind.u8 (Int.fdiv b (16777216 : Int)))) = Value.int IntKind.i64 (IntKind.wrap IntKind.i64 (IntKind.wrap IntKind.u8 (Int.fdiv b (16777216 : Int))))) ∧
        ((Value.int IntKind.u8 (IntKind.wrap IntKind.u8 (Int.fdiv b (65536 : Int))) = Value.int IntKind.u8 (IntKind.wrap IntKind.u8 (Int.fdiv b (65536 : Int)))) ∧
        ((Value.int IntKind.i64 (IntKind.wrap IntKind.i64 (IntKind.wrap IntKind.u8 (Int.fdiv b (65536 : Int)))) = Value.int IntKind.i64 (IntKind.wrap IntKind.i64 (IntKind.wrap IntKind.u8 (Int.fdiv b (65536 : Int))))) ∧
        ((Value.int IntKind.u8 (IntKind.wrap IntKind.u8 (Int.fdiv b (256 : Int))) = Value.int IntKind.u8 (IntKind.wrap IntKind.u8 (Int.fdiv b (256 : Int)))) ∧
        ((Value.int IntKind.i64 (IntKind.wrap IntKind.i64 (IntKind.wrap IntKind.u8 (Int.fdiv b (256 : Int)))) = Value.int IntKind.i64 (IntKind.wrap IntKind.i64 (IntKind.wrap IntKind.u8 (Int.fdiv b (256 : Int))))) ∧
        ((Value.int IntKind.u8 (IntKind.wrap IntKind.u8 b) = Value.int IntKind.u8 (IntKind.wrap IntKind.u8 b)) ∧
        ((Value.int IntKind.i64 (IntKind.wrap IntKind.i64 (IntKind.wrap IntKind.u8 b)) = Value.int IntKind.i64 (IntKind.wrap IntKind.i64 (IntKind.wrap IntKind.u8 b))) ∧
        (br (IntKind.wrap IntKind.i64 ↑(BitVec.toNat (BitVec.ofInt (IntKind.bits IntKind.i64) (IntKind.wrap IntKind.i64 ↑(BitVec.toNat (BitVec.ofInt (IntKind.bits IntKind.i64) (IntKind.wrap IntKind.i64 ↑(BitVec.toNat (BitVec.ofInt (IntKind.bits IntKind.i64) (IntKind.wrap IntKind.i64 ↑(BitVec.toNat (BitVec.ofInt (IntKind.bits IntKind.i64) (IntKind.wrap IntKind.i64 (IntKind.wrap IntKind.i64 (IntKind.wrap IntKind.u8 (Int.fdiv a ((2 : Int) ^ min (Int.toNat (24 : Int)) (IntKind.bits IntKind.u32)))) * (2 : Int) ^ min (Int.toNat (24 : Int)) (IntKind.bits IntKind.i64))) ||| BitVec.ofInt (IntKind.bits IntKind.i64) (IntKind.wrap IntKind.i64 (IntKind.wrap IntKind.i64 (IntKind.wrap IntKind.u8 (Int.fdiv a ((2 : Int) ^ min (Int.toNat (16 : Int)) (IntKind.bits IntKind.u32)))) * (2 : Int) ^ min (Int.toNat (16 : Int)) (IntKind.bits IntKind.i64)))))) ||| BitVec.ofInt (IntKind.bits IntKind.i64) (IntKind.wrap IntKind.i64 (IntKind.wrap IntKind.i64 (IntKind.wrap IntKind.u8 (Int.fdiv a ((2 : Int) ^ min (Int.toNat (8 : Int)) (IntKind.bits IntKind.u32)))) * (2 : Int) ^ min (Int.toNat (8 : Int)) (IntKind.bits IntKind.i64)))))) ||| BitVec.ofInt (IntKind.bits IntKind.i64) (IntKind.wrap IntKind.i64 (IntKind.wrap IntKind.u8 a))))) &&& BitVec.ofInt (IntKind.bits IntKind.i64) (2147483647 : Int))) == IntKind.wrap IntKind.i64 (IntKind.wrap IntKind.u32 ↑(BitVec.toNat (BitVec.ofInt (IntKind.bits IntKind.u32) a &&& ~~~BitVec.ofInt (IntKind.bits IntKind.u32) (2147483648 : Int)))))
         (br (IntKind.wrap IntKind.i64 ↑(BitVec.toNat (BitVec.ofInt (IntKind.bits IntKind.i64) (IntKind.wrap IntKind.i64 ↑(BitVec.toNat (BitVec.ofInt (IntKind.bits IntKind.i64) (IntKind.wrap IntKind.i64 ↑(BitVec.toNat (BitVec.ofInt (IntKind.bits IntKind.i64) (IntKind.wrap IntKind.i64 (IntKind.wrap IntKind.i64 (IntKind.wrap IntKind.u8 (Int.fdiv a ((2 : Int) ^ min (Int.toNat (24 : Int)) (IntKind.bits IntKind.u32)))) * (2 : Int) ^ min (Int.toNat (24 : Int)) (IntKind.bits IntKind.i64))) ||| BitVec.ofInt (IntKind.bits IntKind.i64) (IntKind.wrap IntKind.i64 (IntKind.wrap IntKind.i64 (IntKind.wrap IntKind.u8 (Int.fdiv a ((2 : Int) ^ min (Int.toNat (16 : Int)) (IntKind.bits IntKind.u32)))) * (2 : Int) ^ min (Int.toNat (16 : Int)) (IntKind.bits IntKind.i64)))))) ||| BitVec.ofInt (IntKind.bits IntKind.i64) (IntKind.wrap IntKind.i64 (IntKind.wrap IntKind.i64 (IntKind.wrap IntKind.u8 (Int.fdiv a ((2 : Int) ^ min (Int.toNat (8 : Int)) (IntKind.bits IntKind.u32)))) * (2 : Int) ^ min (Int.toNat (8 : Int)) (IntKind.bits IntKind.i64)))))) ||| BitVec.ofInt (IntKind.bits IntKind.i64) (IntKind.wrap IntKind.i64 (IntKind.wrap IntKind.u8 a)))) == IntKind.wrap IntKind.i64 a)
          (br (IntKind.wrap IntKind.i64 ↑(BitVec.toNat (BitVec.ofInt (IntKind.bits IntKind.i64) (IntKind.wrap IntKind.i64 ↑(BitVec.toNat (BitVec.ofInt (IntKind.bits IntKind.i64) (IntKind.wrap IntKind.i64 ↑(BitVec.toNat (BitVec.ofInt (IntKind.bits IntKind.i64) (IntKind.wrap IntKind.i64 ↑(BitVec.toNat (BitVec.ofInt (IntKind.bits IntKind.i64) (IntKind.wrap IntKind.i64 (IntKind.wrap IntKind.i64 (IntKind.wrap IntKind.u8 (Int.fdiv a ((2 : Int) ^ min (Int.toNat (24 : Int)) (IntKind.bits IntKind.u32)))) * (2 : Int) ^ min (Int.toNat (24 : Int)) (IntKind.bits IntKind.i64))) ||| BitVec.ofInt (IntKind.bits IntKind.i64) (IntKind.wrap IntKind.i64 (IntKind.wrap IntKind.i64 (IntKind.wrap IntKind.u8 (Int.fdiv a ((2 : Int) ^ min (Int.toNat (16 : Int)) (IntKind.bits IntKind.u32)))) * (2 : Int) ^ min (Int.toNat (16 : Int)) (IntKind.bits IntKind.i64)))))) ||| BitVec.ofInt (IntKind.bits IntKind.i64) (IntKind.wrap IntKind.i64 (IntKind.wrap IntKind.i64 (IntKind.wrap IntKind.u8 (Int.fdiv a ((2 : Int) ^ min (Int.toNat (8 : Int)) (IntKind.bits IntKind.u32)))) * (2 : Int) ^ min (Int.toNat (8 : Int)) (IntKind.bits IntKind.i64)))))) ||| BitVec.ofInt (IntKind.bits IntKind.i64) (IntKind.wrap IntKind.i64 (IntKind.wrap IntKind.u8 a))))) &&& BitVec.ofInt (IntKind.bits IntKind.i64) (2147483647 : Int))) == IntKind.wrap IntKind.i64 (IntKind.wrap IntKind.u32 ↑(BitVec.toNat (BitVec.ofInt (IntKind.bits IntKind.u32) a &&& ~~~BitVec.ofInt (IntKind.bits IntKind.u32) (2147483648 : Int)))))
           (br (IntKind.wrap IntKind.i64 ↑(BitVec.toNat (BitVec.ofInt (IntKind.bits IntKind.i64) (IntKind.wrap IntKind.i64 ↑(BitVec.toNat (BitVec.ofInt (IntKind.bits IntKind.i64) (IntKind.wrap IntKind.i64 ↑(BitVec.toNat (BitVec.ofInt (IntKind.bits IntKind.i64) (IntKind.wrap IntKind.i64 (IntKind.wrap IntKind.i64 (IntKind.wrap IntKind.u8 (Int.fdiv b ((2 : Int) ^ min (Int.toNat (24 : Int)) (IntKind.bits IntKind.u32)))) * (2 : Int) ^ min (Int.toNat (24 : Int)) (IntKind.bits IntKind.i64))) ||| BitVec.ofInt (IntKind.bits IntKind.i64) (IntKind.wrap IntKind.i64 (IntKind.wrap IntKind.i64 (IntKind.wrap IntKind.u8 (Int.fdiv b ((2 : Int) ^ min (Int.toNat (16 : Int)) (IntKind.bits IntKind.u32)))) * (2 : Int) ^ min (Int.toNat (16 : Int)) (IntKind.bits IntKind.i64)))))) ||| BitVec.ofInt (IntKind.bits IntKind.i64) (IntKind.wrap IntKind.i64 (IntKind.wrap IntKind.i64 (IntKind.wrap IntKind.u8 (Int.fdiv b ((2 : Int) ^ min (Int.toNat (8 : Int)) (IntKind.bits IntKind.u32)))) * (2 : Int) ^ min (Int.toNat (8 : Int)) (IntKind.bits IntKind.i64)))))) ||| BitVec.ofInt (IntKind.bits IntKind.i64) (IntKind.wrap IntKind.i64 (IntKind.wrap IntKind.u8 b)))) == IntKind.wrap IntKind.i64 b)
            ((True) ∧
            (End.ret (Value.bool true) = End.ret (Value.bool true)))
            (End.ret (Value.bool false) = End.ret (Value.bool true)))
           (End.ret (Value.bool false) = End.ret (Value.bool true)))
          (End.ret (Value.bool false) = End.ret (Value.bool true)))
         (br (IntKind.wrap IntKind.i64 (IntKind.wrap IntKind.u32 ↑(BitVec.toNat (BitVec.ofInt (IntKind.bits IntKind.u32) a &&& ~~~BitVec.ofInt (IntKind.bits IntKind.u32) (2147483648 : Int)))) == (0 : Int))
          (br (IntKind.wrap IntKind.i64 ↑(BitVec.toNat (BitVec.ofInt (IntKind.bits IntKind.i64) (IntKind.wrap IntKind.i64 ↑(BitVec.toNat (BitVec.ofInt (IntKind.bits IntKind.i64) (IntKind.wrap IntKind.i64 ↑(BitVec.toNat (BitVec.ofInt (IntKind.bits IntKind.i64) (IntKind.wrap IntKind.i64 (IntKind.wrap IntKind.i64 (IntKind.wrap IntKind.u8 (Int.fdiv a ((2 : Int) ^ min (Int.toNat (24 : Int)) (IntKind.bits IntKind.u32)))) * (2 : Int) ^ min (Int.toNat (24 : Int)) (IntKind.bits IntKind.i64))) ||| BitVec.ofInt (IntKind.bits IntKind.i64) (IntKind.wrap IntKind.i64 (IntKind.wrap IntKind.i64 (IntKind.wrap IntKind.u8 (Int.fdiv a ((2 : Int) ^ min (Int.toNat (16 : Int)) (IntKind.bits IntKind.u32)))) * (2 : Int) ^ min (Int.toNat (16 : Int)) (IntKind.bits IntKind.i64)))))) ||| BitVec.ofInt (IntKind.bits IntKind.i64) (IntKind.wrap IntKind.i64 (IntKind.wrap IntKind.i64 (IntKind.wrap IntKind.u8 (Int.fdiv a ((2 : Int) ^ min (Int.toNat (8 : Int)) (IntKind.bits IntKind.u32)))) * (2 : Int) ^ min (Int.toNat (8 : Int)) (IntKind.bits IntKind.i64)))))) ||| BitVec.ofInt (IntKind.bits IntKind.i64) (IntKind.wrap IntKind.i64 (IntKind.wrap IntKind.u8 a)))) == IntKind.wrap IntKind.i64 a)
           (End.ret (Value.bool false) = End.ret (Value.bool true))
           (End.ret (Value.bool false) = End.ret (Value.bool true)))
          (br (IntKind.wrap IntKind.i64 ↑(BitVec.toNat (BitVec.ofInt (IntKind.bits IntKind.i64) (IntKind.wrap IntKind.i64 ↑(BitVec.toNat (BitVec.ofInt (IntKind.bits IntKind.i64) (IntKind.wrap IntKind.i64 ↑(BitVec.toNat (BitVec.ofInt (IntKind.bits IntKind.i64) (IntKind.wrap IntKind.i64 (IntKind.wrap IntKind.i64 (IntKind.wrap IntKind.u8 (Int.fdiv a ((2 : Int) ^ min (Int.toNat (24 : Int)) (IntKind.bits IntKind.u32)))) * (2 : Int) ^ min (Int.toNat (24 : Int)) (IntKind.bits IntKind.i64))) ||| BitVec.ofInt (IntKind.bits IntKind.i64) (IntKind.wrap IntKind.i64 (IntKind.wrap IntKind.i64 (IntKind.wrap IntKind.u8 (Int.fdiv a ((2 : Int) ^ min (Int.toNat (16 : Int)) (IntKind.bits IntKind.u32)))) * (2 : Int) ^ min (Int.toNat (16 : Int)) (IntKind.bits IntKind.i64)))))) ||| BitVec.ofInt (IntKind.bits IntKind.i64) (IntKind.wrap IntKind.i64 (IntKind.wrap IntKind.i64 (IntKind.wrap IntKind.u8 (Int.fdiv a ((2 : Int) ^ min (Int.toNat (8 : Int)) (IntKind.bits IntKind.u32)))) * (2 : Int) ^ min (Int.toNat (8 : Int)) (IntKind.bits IntKind.i64)))))) ||| BitVec.ofInt (IntKind.bits IntKind.i64) (IntKind.wrap IntKind.i64 (IntKind.wrap IntKind.u8 a)))) == IntKind.wrap IntKind.i64 a)
           (End.ret (Value.bool false) = End.ret (Value.bool true))
           (End.ret (Value.bool false) = End.ret (Value.bool true)))))))))))))))))))))
        (br (within s (1 : Int) (2147483647 : Int) == (0 : Int))
         False
         ((Value.agg (Array.mk [Value.int IntKind.i64 (1 : Int), Value.int IntKind.i64 (1 : Int), Value.int IntKind.i64 (within s (1 : Int) (2147483647 : Int))]) = Value.agg (Array.mk [Value.int IntKind.i64 (1 : Int), Value.int IntKind.i64 (1 : Int), Value.int IntKind.i64 (within s (1 : Int) (2147483647 : Int))])) ∧
         ((Value.agg (Array.mk [Value.int IntKind.i64 (1 : Int), Value.int IntKind.i64 (1 : Int), Value.int IntKind.i64 (within s (1 : Int) (2147483647 : Int))]) = Value.agg (Array.mk [Value.int IntKind.i64 (1 : Int), Value.int IntKind.i64 (1 : Int), Value.int IntKind.i64 (within s (1 : Int) (2147483647 : Int))])) ∧
         ((Value.int IntKind.u8 (IntKind.wrap IntKind.u8 (Int.fdiv a (16777216 : Int))) = Value.int IntKind.u8 (IntKind.wrap IntKind.u8 (Int.fdiv a (16777216 : Int)))) ∧
         ((Value.int IntKind.i64 (IntKind.wrap IntKind.i64 (IntKind.wrap IntKind.u8 (Int.fdiv a (16777216 : Int)))) = Value.int IntKind.i64 (IntKind.wrap IntKind.i64 (IntKind.wrap IntKind.u8 (Int.fdiv a (16777216 : Int))))) ∧
         ((Value.int IntKind.u8 (IntKind.wrap IntKind.u8 (Int.fdiv a (65536 : Int))) = Value.int IntKind.u8 (IntKind.wrap IntKind.u8 (Int.fdiv a (65536 : Int)))) ∧
         ((Value.int IntKind.i64 (IntKind.wrap IntKind.i64 (IntKind.wrap IntKind.u8 (Int.fdiv a (65536 : Int)))) = Value.int IntKind.i64 (IntKind.wrap IntKind.i64 (IntKind.wrap IntKind.u8 (Int.fdiv a (65536 : Int))))) ∧
         ((Value.int IntKind.u8 (IntKind.wrap IntKind.u8 (Int.fdiv a (256 : Int))) = Value.int IntKind.u8 (IntKind.wrap IntKind.u8 (Int.fdiv a (256 : Int)))) ∧
         ((Value.int IntKind.i64 (IntKind.wrap IntKind.i64 (IntKind.wrap IntKind.u8 (Int.fdiv a (256 : Int)))) = Value.int IntKind.i64 (IntKind.wrap IntKind.i64 (IntKind.wrap IntKind.u8 (Int.fdiv a (256 : Int))))) ∧
         ((Value.int IntKind.u8 (IntKind.wrap IntKind.u8 a) = Value.int IntKind.u8 (IntKind.wrap IntKind.u8 a)) ∧
         ((Value.int IntKind.i64 (IntKind.wrap IntKind.i64 (IntKind.wrap IntKind.u8 a)) = Value.int IntKind.i64 (IntKind.wrap IntKind.i64 (IntKind.wrap IntKind.u8 a))) ∧
         ((Value.int IntKind.u8 (IntKind.wrap IntKind.u8 (Int.fdiv b (16777216 : Int))) = Value.int IntKind.u8 (IntKind.wrap IntKind.u8 (Int.fdiv b (16777216 : Int)))) ∧
         ((Value.int IntKind.i64 (IntKind.wrap IntKind.i64 (IntKind.wrap IntKind.u8 (Int.fdiv b (16777216 : Int)))) = Value.int IntKind.i64 (IntKind.wrap IntKind.i64 (IntKind.wrap IntKind.u8 (Int.fdiv b (16777216 : Int))))) ∧
         ((Value.int IntKind.u8 (IntKind.wrap IntKind.u8 (Int.fdiv b (65536 : Int))) = Value.int IntKind.u8 (IntKind.wrap IntKind.u8 (Int.fdiv b (65536 : Int)))) ∧
         ((Value.int IntKind.i64 (IntKind.wrap IntKind.i64 (IntKind.wrap IntKind.u8 (Int.fdiv b (65536 : Int)))) = Value.int IntKind.i64 (IntKind.wrap IntKind.i64 (IntKind.wrap IntKind.u8 (Int.fdiv b (65536 : Int))))) ∧
         ((Value.int IntKind.u8 (IntKind.wrap IntKind.u8 (Int.fdiv b (256 : Int))) = Value.int IntKind.u8 (IntKind.wrap IntKind.u8 (Int.fdiv b (256 : Int)))) ∧
         ((Value.int IntKind.i64 (IntKind.wrap IntKind.i64 (IntKind.wrap IntKind.u8 (Int.fdiv b (256 : Int)))) = Value.int IntKind.i64 (IntKind.wrap IntKind.i64 (IntKind.wrap IntKind.u8 (Int.fdiv b (256 : Int))))) ∧
         ((Value.int IntKind.u8 (IntKind.wrap IntKind.u8 b) = Value.int IntKind.u8 (IntKind.wrap IntKind.u8 b)) ∧
         ((Value.int IntKind.i64 (IntKind.wrap IntKind.i64 (IntKind.wrap IntKind.u8 b)) = Value.int IntKind.i64 (IntKind.wrap IntKind.i64 (IntKind.wrap IntKind.u8 b))) ∧
         (br (IntKind.wrap IntKind.i64 (IntKind.wrap IntKind.u32 ↑(BitVec.toNat (BitVec.ofInt (IntKind.bits IntKind.u32) a &&& ~~~BitVec.ofInt (IntKind.bits IntKind.u32) (2147483648 : Int)))) == (0 : Int))
          (br (IntKind.wrap IntKind.i64 ↑(BitVec.toNat (BitVec.ofInt (IntKind.bits IntKind.i64) (IntKind.wrap IntKind.i64 ↑(BitVec.toNat (BitVec.ofInt (IntKind.bits IntKind.i64) (IntKind.wrap IntKind.i64 ↑(BitVec.toNat (BitVec.ofInt (IntKind.bits IntKind.i64) (IntKind.wrap IntKind.i64 (IntKind.wrap IntKind.i64 (IntKind.wrap IntKind.u8 (Int.fdiv a ((2 : Int) ^ min (Int.toNat (24 : Int)) (IntKind.bits IntKind.u32)))) * (2 : Int) ^ min (Int.toNat (24 : Int)) (IntKind.bits IntKind.i64))) ||| BitVec.ofInt (IntKind.bits IntKind.i64) (IntKind.wrap IntKind.i64 (IntKind.wrap IntKind.i64 (IntKind.wrap IntKind.u8 (Int.fdiv a ((2 : Int) ^ min (Int.toNat (16 : Int)) (IntKind.bits IntKind.u32)))) * (2 : Int) ^ min (Int.toNat (16 : Int)) (IntKind.bits IntKind.i64)))))) ||| BitVec.ofInt (IntKind.bits IntKind.i64) (IntKind.wrap IntKind.i64 (IntKind.wrap IntKind.i64 (IntKind.wrap IntKind.u8 (Int.fdiv a ((2 : Int) ^ min (Int.toNat (8 : Int)) (IntKind.bits IntKind.u32)))) * (2 : Int) ^ min (Int.toNat (8 : Int)) (IntKind.bits IntKind.i64)))))) ||| BitVec.ofInt (IntKind.bits IntKind.i64) (IntKind.wrap IntKind.i64 (IntKind.wrap IntKind.u8 a)))) == IntKind.wrap IntKind.i64 a)
           (br (true && (true && (within s (1 : Int) (2147483647 : Int) == within s (1 : Int) (2147483647 : Int) && true)))
            (br (IntKind.wrap IntKind.i64 ↑(BitVec.toNat (BitVec.ofInt (IntKind.bits IntKind.i64) (IntKind.wrap IntKind.i64 ↑(BitVec.toNat (BitVec.ofInt (IntKind.bits IntKind.i64) (IntKind.wrap IntKind.i64 ↑(BitVec.toNat (BitVec.ofInt (IntKind.bits IntKind.i64) (IntKind.wrap IntKind.i64 ↑(BitVec.toNat (BitVec.ofInt (IntKind.bits IntKind.i64) (IntKind.wrap IntKind.i64 (IntKind.wrap IntKind.i64 (IntKind.wrap IntKind.u8 (Int.fdiv a ((2 : Int) ^ min (Int.toNat (24 : Int)) (IntKind.bits IntKind.u32)))) * (2 : Int) ^ min (Int.toNat (24 : Int)) (IntKind.bits IntKind.i64))) ||| BitVec.ofInt (IntKind.bits IntKind.i64) (IntKind.wrap IntKind.i64 (IntKind.wrap IntKind.i64 (IntKind.wrap IntKind.u8 (Int.fdiv a ((2 : Int) ^ min (Int.toNat (16 : Int)) (IntKind.bits IntKind.u32)))) * (2 : Int) ^ min (Int.toNat (16 : Int)) (IntKind.bits IntKind.i64)))))) ||| BitVec.ofInt (IntKind.bits IntKind.i64) (IntKind.wrap IntKind.i64 (IntKind.wrap IntKind.i64 (IntKind.wrap IntKind.u8 (Int.fdiv a ((2 : Int) ^ min (Int.toNat (8 : Int)) (IntKind.bits IntKind.u32)))) * (2 : Int) ^ min (Int.toNat (8 : Int)) (IntKind.bits IntKind.i64)))))) ||| BitVec.ofInt (IntKind.bits IntKind.i64) (IntKind.wrap IntKind.i64 (IntKind.wrap IntKind.u8 a))))) &&& BitVec.ofInt (IntKind.bits IntKind.i64) (2147483647 : Int))) == IntKind.wrap IntKind.i64 (IntKind.wrap IntKind.u32 ↑(BitVec.toNat (BitVec.ofInt (IntKind.bits IntKind.u32) a &&& ~~~BitVec.ofInt (IntKind.bits IntKind.u32) (2147483648 : Int)))))
             (br (IntKind.wrap IntKind.i64 ↑(BitVec.toNat (BitVec.ofInt (IntKind.bits IntKind.i64) (IntKind.wrap IntKind.i64 ↑(BitVec.toNat (BitVec.ofInt (IntKind.bits IntKind.i64) (IntKind.wrap IntKind.i64 ↑(BitVec.toNat (BitVec.ofInt (IntKind.bits IntKind.i64) (IntKind.wrap IntKind.i64 (IntKind.wrap IntKind.i64 (IntKind.wrap IntKind.u8 (Int.fdiv b ((2 : Int) ^ min (Int.toNat (24 : Int)) (IntKind.bits IntKind.u32)))) * (2 : Int) ^ min (Int.toNat (24 : Int)) (IntKind.bits IntKind.i64))) ||| BitVec.ofInt (IntKind.bits IntKind.i64) (IntKind.wrap IntKind.i64 (IntKind.wrap IntKind.i64 (IntKind.wrap IntKind.u8 (Int.fdiv b ((2 : Int) ^ min (Int.toNat (16 : Int)) (IntKind.bits IntKind.u32)))) * (2 : Int) ^ min (Int.toNat (16 : Int)) (IntKind.bits IntKind.i64)))))) ||| BitVec.ofInt (IntKind.bits IntKind.i64) (IntKind.wrap IntKind.i64 (IntKind.wrap IntKind.i64 (IntKind.wrap IntKind.u8 (Int.fdiv b ((2 : Int) ^ min (Int.toNat (8 : Int)) (IntKind.bits IntKind.u32)))) * (2 : Int) ^ min (Int.toNat (8 : Int)) (IntKind.bits IntKind.i64)))))) ||| BitVec.ofInt (IntKind.bits IntKind.i64) (IntKind.wrap IntKind.i64 (IntKind.wrap IntKind.u8 b)))) == IntKind.wrap IntKind.i64 b)
              ((True) ∧
              (End.ret (Value.bool true) = End.ret (Value.bool true)))
              (End.ret (Value.bool false) = End.ret (Value.bool true)))
             (End.ret (Value.bool false) = End.ret (Value.bool true)))
            (End.ret (Value.bool false) = End.ret (Value.bool true)))
           (End.ret (Value.bool false) = End.ret (Value.bool true)))
          (br (IntKind.wrap IntKind.i64 ↑(BitVec.toNat (BitVec.ofInt (IntKind.bits IntKind.i64) (IntKind.wrap IntKind.i64 ↑(BitVec.toNat (BitVec.ofInt (IntKind.bits IntKind.i64) (IntKind.wrap IntKind.i64 ↑(BitVec.toNat (BitVec.ofInt (IntKind.bits IntKind.i64) (IntKind.wrap IntKind.i64 (IntKind.wrap IntKind.i64 (IntKind.wrap IntKind.u8 (Int.fdiv a ((2 : Int) ^ min (Int.toNat (24 : Int)) (IntKind.bits IntKind.u32)))) * (2 : Int) ^ min (Int.toNat (24 : Int)) (IntKind.bits IntKind.i64))) ||| BitVec.ofInt (IntKind.bits IntKind.i64) (IntKind.wrap IntKind.i64 (IntKind.wrap IntKind.i64 (IntKind.wrap IntKind.u8 (Int.fdiv a ((2 : Int) ^ min (Int.toNat (16 : Int)) (IntKind.bits IntKind.u32)))) * (2 : Int) ^ min (Int.toNat (16 : Int)) (IntKind.bits IntKind.i64)))))) ||| BitVec.ofInt (IntKind.bits IntKind.i64) (IntKind.wrap IntKind.i64 (IntKind.wrap IntKind.i64 (IntKind.wrap IntKind.u8 (Int.fdiv a ((2 : Int) ^ min (Int.toNat (8 : Int)) (IntKind.bits IntKind.u32)))) * (2 : Int) ^ min (Int.toNat (8 : Int)) (IntKind.bits IntKind.i64)))))) ||| BitVec.ofInt (IntKind.bits IntKind.i64) (IntKind.wrap IntKind.i64 (IntKind.wrap IntKind.u8 a)))) == IntKind.wrap IntKind.i64 a)
           (End.ret (Value.bool false) = End.ret (Value.bool true))
           (End.ret (Value.bool false) = End.ret (Value.bool true))))))))))))))))))))))))))))))))
       False)
      False))))))))))
    False)
   False)) := by kernel_rfl

theorem within_ok (n lo hi : Int) (hlo : Small lo) (hhi : Small hi) (h : lo ≤ hi) : Flat Try.prog 17 [.int .i64 n, .int .i64 lo, .int .i64 hi] (.int .i64 (within n lo hi)) :=
  within_flat (E := E0) mixed (calls_bare _) (lok_bare _) (by kernel_rfl) within_vc n lo hi hlo hhi h
theorem runs : Flat Try.prog 3 [] (.bool true) := fun w => run_closed mixed (by kernel_rfl) (args := []) rfl rfl (show ret? (Ev.run Try.prog 1000000 3 [] ⟨.leaf, 0⟩) = some (.bool true) by kernel_rfl) w
theorem calls2 : CallsOk E2.P (oOf E2) := by
  refine calls_flat fun f a h p v h' e hp => ?_
  change T1 f a h = _ at e
  unfold T1 at e
  split at e <;> simp only [Option.some.injEq, Prod.mk.injEq, reduceCtorEq] at e <;> obtain ⟨rfl, rfl, rfl⟩ := e
  · exact ⟨rfl, rfl, rfl, runs⟩
  · exact ⟨rfl, rfl, rfl, within_ok _ _ _ hp.1 hp.2.1 hp.2.2⟩
theorem lok2 : LOk E2 := by
  intro f p spec fn c0 c hl hf hb hc fr u h K hs
  have : spec = fun _ _ _ _ => False := by
    change cut f p = some spec at hl
    unfold cut at hl
    cases hq : ((Nat.beq f 10 && (decide (p = [0, 1, 0, 1, 1]) || decide (p = [0, 1, 0, 1, 1, 1]))) || (Nat.beq f 38 && decide (p = [0, 1, 0, 1, 1, 1, 1]))) with
    | false => rw [hq] at hl; simp at hl
    | true => rw [hq] at hl; simp only [cond_true, Option.some.injEq] at hl; exact hl.symm
  rw [this] at hs; exact hs.elim

/-! ### Numbers out of bytes -/
theorem or_add (x y : Int) (k : Nat) (c : Int) (hc : (2 ^ k : Nat) = c) (q : Int) (hx : x = c * q) (hq : 0 ≤ q) (hy : 0 ≤ y) (hyc : y < c) (hs : x + y < 9223372036854775808) : IntKind.wrap IntKind.i64 ↑(BitVec.toNat (BitVec.ofInt (IntKind.bits IntKind.i64) x ||| BitVec.ofInt (IntKind.bits IntKind.i64) y)) = x + y := by
  have hx0 : 0 ≤ x := by rw [hx]; exact Int.mul_nonneg (by omega) hq
  obtain ⟨a, rfl⟩ := Int.eq_ofNat_of_zero_le hx0
  obtain ⟨b, rfl⟩ := Int.eq_ofNat_of_zero_le hy
  obtain ⟨r, rfl⟩ := Int.eq_ofNat_of_zero_le hq
  subst hc
  have ha : a = 2 ^ k * r := by exact_mod_cast hx
  have hb : b < 2 ^ k := by exact_mod_cast hyc
  have e : a ||| b = a + b := by rw [ha]; exact (Nat.two_pow_add_eq_or_of_lt hb r).symm
  have e1 : BitVec.toNat (BitVec.ofInt (IntKind.bits IntKind.i64) (a : Int)) = a := by
    rw [BitVec.toNat_ofInt]; simp only [IntKind.bits]; omega
  have e2 : BitVec.toNat (BitVec.ofInt (IntKind.bits IntKind.i64) (b : Int)) = b := by
    rw [BitVec.toNat_ofInt]; simp only [IntKind.bits]; omega
  rw [BitVec.toNat_or, e1, e2, e, wr64_id ⟨by omega, by omega⟩]
  omega
theorem num_eq (b : Int) (h0 : 0 ≤ b) (h1 : b < 4294967296) : IntKind.wrap IntKind.i64 ↑(BitVec.toNat (BitVec.ofInt (IntKind.bits IntKind.i64) (IntKind.wrap IntKind.i64 ↑(BitVec.toNat (BitVec.ofInt (IntKind.bits IntKind.i64) (IntKind.wrap IntKind.i64 ↑(BitVec.toNat (BitVec.ofInt (IntKind.bits IntKind.i64) (IntKind.wrap IntKind.i64 (IntKind.wrap IntKind.i64 (IntKind.wrap IntKind.u8 (Int.fdiv b ((2 : Int) ^ min (Int.toNat (24 : Int)) (IntKind.bits IntKind.u32)))) * (2 : Int) ^ min (Int.toNat (24 : Int)) (IntKind.bits IntKind.i64))) ||| BitVec.ofInt (IntKind.bits IntKind.i64) (IntKind.wrap IntKind.i64 (IntKind.wrap IntKind.i64 (IntKind.wrap IntKind.u8 (Int.fdiv b ((2 : Int) ^ min (Int.toNat (16 : Int)) (IntKind.bits IntKind.u32)))) * (2 : Int) ^ min (Int.toNat (16 : Int)) (IntKind.bits IntKind.i64)))))) ||| BitVec.ofInt (IntKind.bits IntKind.i64) (IntKind.wrap IntKind.i64 (IntKind.wrap IntKind.i64 (IntKind.wrap IntKind.u8 (Int.fdiv b ((2 : Int) ^ min (Int.toNat (8 : Int)) (IntKind.bits IntKind.u32)))) * (2 : Int) ^ min (Int.toNat (8 : Int)) (IntKind.bits IntKind.i64)))))) ||| BitVec.ofInt (IntKind.bits IntKind.i64) (IntKind.wrap IntKind.i64 (IntKind.wrap IntKind.u8 b)))) = b := by
  have p24 : (2 : Int) ^ min (Int.toNat (24 : Int)) (IntKind.bits IntKind.u32) = 16777216 := by decide
  have p16 : (2 : Int) ^ min (Int.toNat (16 : Int)) (IntKind.bits IntKind.u32) = 65536 := by decide
  have p8 : (2 : Int) ^ min (Int.toNat (8 : Int)) (IntKind.bits IntKind.u32) = 256 := by decide
  have q24 : (2 : Int) ^ min (Int.toNat (24 : Int)) (IntKind.bits IntKind.i64) = 16777216 := by decide
  have q16 : (2 : Int) ^ min (Int.toNat (16 : Int)) (IntKind.bits IntKind.i64) = 65536 := by decide
  have q8 : (2 : Int) ^ min (Int.toNat (8 : Int)) (IntKind.bits IntKind.i64) = 256 := by decide
  have fd : ∀ c : Int, 0 ≤ c → Int.fdiv b c = b / c := fun c hc => Int.fdiv_eq_ediv_of_nonneg b hc
  rw [p24, p16, p8, q24, q16, q8, fd _ (by omega), fd _ (by omega), fd _ (by omega)]
  have e24 : IntKind.wrap IntKind.i64 (IntKind.wrap IntKind.i64 (IntKind.wrap IntKind.u8 (b / 16777216)) * 16777216) = 16777216 * (b / 16777216) := by
    simp only [wr64, wru8]; omega
  have e16 : IntKind.wrap IntKind.i64 (IntKind.wrap IntKind.i64 (IntKind.wrap IntKind.u8 (b / 65536)) * 65536) = 65536 * (b / 65536 % 256) := by
    simp only [wr64, wru8]; omega
  have e8 : IntKind.wrap IntKind.i64 (IntKind.wrap IntKind.i64 (IntKind.wrap IntKind.u8 (b / 256)) * 256) = 256 * (b / 256 % 256) := by
    simp only [wr64, wru8]; omega
  have e0 : IntKind.wrap IntKind.i64 (IntKind.wrap IntKind.u8 b) = b % 256 := by
    simp only [wr64, wru8]; omega
  rw [e24, e16, e8, e0]
  rw [or_add (16777216 * (b / 16777216)) (65536 * (b / 65536 % 256)) 24 16777216 (by decide) (b / 16777216) rfl (by omega) (by omega) (by omega) (by omega)]
  rw [or_add (16777216 * (b / 16777216) + 65536 * (b / 65536 % 256)) (256 * (b / 256 % 256)) 16 65536 (by decide) (256 * (b / 16777216) + b / 65536 % 256) (by omega) (by omega) (by omega) (by omega) (by omega)]
  rw [or_add _ (b % 256) 8 256 (by decide) (65536 * (b / 16777216) + 256 * (b / 65536 % 256) + b / 256 % 256) (by omega) (by omega) (by omega) (by omega) (by omega)]
  omega
theorem low_eq (b : Int) (h0 : 0 ≤ b) (h1 : b < 4294967296) : IntKind.wrap IntKind.i64 ↑(BitVec.toNat (BitVec.ofInt (IntKind.bits IntKind.i64) b &&& BitVec.ofInt (IntKind.bits IntKind.i64) (2147483647 : Int))) = b % 2147483648 := by
  obtain ⟨a, rfl⟩ := Int.eq_ofNat_of_zero_le h0
  have e1 : BitVec.toNat (BitVec.ofInt (IntKind.bits IntKind.i64) (a : Int)) = a := by
    rw [BitVec.toNat_ofInt]; simp only [IntKind.bits]; omega
  have e2 : BitVec.toNat (BitVec.ofInt (IntKind.bits IntKind.i64) (2147483647 : Int)) = 2 ^ 31 - 1 := by decide
  rw [BitVec.toNat_and, e1, e2, Nat.and_two_pow_sub_one_eq_mod, wr64_id ⟨by omega, by omega⟩]
  omega
theorem more_eq (b : Int) (h0 : 0 ≤ b) (h1 : b < 4294967296) : IntKind.wrap IntKind.i64 (IntKind.wrap IntKind.u32 ↑(BitVec.toNat (BitVec.ofInt (IntKind.bits IntKind.u32) b &&& ~~~BitVec.ofInt (IntKind.bits IntKind.u32) (2147483648 : Int)))) = b % 2147483648 := by
  obtain ⟨a, rfl⟩ := Int.eq_ofNat_of_zero_le h0
  have e1 : BitVec.toNat (BitVec.ofInt (IntKind.bits IntKind.u32) (a : Int)) = a := by
    rw [BitVec.toNat_ofInt]; simp only [IntKind.bits]; omega
  have e2 : BitVec.toNat (~~~BitVec.ofInt (IntKind.bits IntKind.u32) (2147483648 : Int)) = 2 ^ 31 - 1 := by decide
  have w : ∀ n : Int, 0 ≤ n → n < 4294967296 → IntKind.wrap .u32 n = n := by
    intro n g0 g1
    simp only [IntKind.wrap, IntKind.bits, IntKind.signed]
    simp; omega
  rw [BitVec.toNat_and, e1, e2, Nat.and_two_pow_sub_one_eq_mod, w _ (by omega) (by omega), wr64_id ⟨by omega, by omega⟩]
  omega
theorem wf32 {n : Int} (h : (Lit.int .u32 n).wf = true) : 0 ≤ n ∧ n < 4294967296 := by
  simp only [Lit.wf, IntKind.min, IntKind.max, IntKind.signed, IntKind.bits] at h
  simp at h; omega

set_option maxHeartbeats 2000000 in
theorem numbers (a b s : Int) (ha : (Lit.int .u32 a).wf = true) (hb : (Lit.int .u32 b).wf = true) (_ : I64 s) : Flat Try.prog 9 [.int .u32 a, .int .u32 b, .int .i64 s] (.bool true) := by
  have ha := wf32 ha
  have hb := wf32 hb
  refine flat_vc (E := E2) mixed calls2 lok2 (by kernel_rfl) rfl rfl (num_vc a b s) ⟨⟨by unfold Small; omega, by unfold Small; omega, by omega⟩, ?_⟩
  have h3 := within_bd s 1 2147483647 (by omega)
  generalize within s 1 2147483647 = s at *
  have wa : IntKind.wrap IntKind.i64 a = a := wr64_id ⟨by omega, by omega⟩
  have wb : IntKind.wrap IntKind.i64 b = b := wr64_id ⟨by omega, by omega⟩
  simp only [num_eq a ha.1 ha.2, num_eq b hb.1 hb.2, low_eq a ha.1 ha.2, more_eq a ha.1 ha.2, wa, wb]
  repeat' (first | exact trivial | exact ⟨trivial, rfl⟩ | rfl | refine And.intro ?_ ?_ | refine br_intro (fun h => ?_) (fun h => ?_))
  all_goals (exfalso; simp at * <;> omega)
end Go.Proofs.Ytagahikocoggcaa.n
