/- Preferences read. -/
import Derived.Test.YtgnpilaadggegaaSz9
import Derived.Test.YtgnpilaadggegaaRows
import Derived.Test.YtgnpilaadggegaaLlawWg
set_option linter.unusedSimpArgs false
set_option linter.unusedVariables false
namespace Go.Proofs.Ytgnpilaadggegaa.fl
open Go Go.Ev Go.Sy Go.RowKit
/-- A byte's digit; the number that the digits come to, and how much is one. -/
def dgt (a : UInt8) : Int := (a.toNat : Int) - 48
def isD (a : UInt8) : Bool := decide (48 ≤ a.toNat ∧ a.toNat ≤ 57)
def qN : List UInt8 → Int
  | [a] => dgt a
  | [a, _] => dgt a
  | [a, _, c] => dgt a * 10 + dgt c
  | [a, _, c, d] => (dgt a * 10 + dgt c) * 10 + dgt d
  | [a, _, c, d, e] => ((dgt a * 10 + dgt c) * 10 + dgt d) * 10 + dgt e
  | _ => 0
def qS : List UInt8 → Int
  | [_, _, _] => 10
  | [_, _, _, _] => 100
  | [_, _, _, _, _] => 1000
  | _ => 1
def qOk (l : List UInt8) : Bool := match l with
  | [] => false
  | a :: t => decide (a.toNat = 48 ∨ a.toNat = 49) && ((match t with | [] => true | b :: t => decide (b.toNat = 46) && t.all isD) && (decide (l.length ≤ 5) && decide (qN l ≤ qS l)))
def qX (l : List UInt8) : Nat := if qOk l then ((fA .quo .f64 (FloatKind.f64.nearest (qN l)) (FloatKind.f64.nearest (qS l))).getD 0) else 0
theorem qx_ex (s : ByteArray) : ∃ x : Nat, x = qX s.data.toList := ⟨_, rfl⟩
theorem qo_ex (s : ByteArray) : ∃ x : Bool, x = qOk s.data.toList := ⟨_, rfl⟩
noncomputable def qxS (s : ByteArray) : Nat := Classical.choose (qx_ex s)
noncomputable def qoS (s : ByteArray) : Bool := Classical.choose (qo_ex s)
def mCq := mOf [(12, [0, 1, 0, 1, 1, 1, 1], fun _ _ _ _ => False)]
def mCr := mOf [(25, [0, 1, 0, 1, 1, 1], fun _ _ _ _ => False)]
theorem qxS_eq (s : ByteArray) : qxS s = qX s.data.toList := Classical.choose_spec (qx_ex s)
theorem qoS_eq (s : ByteArray) : qoS s = qOk s.data.toList := Classical.choose_spec (qo_ex s)
theorem q0_vc (x : Nat) (v : Bool) : mcall E0 noM 60 12 [.string (tk.bs [])] ⟨mkR (nums 0 []), 0⟩ (retIs 0 (.tuple #[.float .f64 x, .bool v]) []) =
  ((x = (0 : Nat)) ∧
  ((v = false) ∧
  True)) := by kernel_rfl
theorem q1_vc (a : UInt8) (x : Nat) (v : Bool) : mcall E0 noM 60 12 [.string (tk.bs [a])] ⟨mkR (nums 0 []), 0⟩ (retIs 0 (.tuple #[.float .f64 x, .bool v]) []) =
  (br (byteAt (tk.bs [a]) (0 : Nat) != (48 : Int))
   (br (byteAt (tk.bs [a]) (0 : Nat) != (49 : Int))
    ((x = (0 : Nat)) ∧
    ((v = false) ∧
    True))
    (br (decide (IntKind.wrap IntKind.i64 (IntKind.wrap IntKind.u8 (byteAt (tk.bs [a]) (0 : Nat) - (48 : Int))) > (1 : Int)))
     ((x = (0 : Nat)) ∧
     ((v = false) ∧
     True))
     (∃ r : Nat, ((Eq (α := Option Nat) (fA BinOp.quo FloatKind.f64 (FloatKind.nearest FloatKind.f64 (IntKind.wrap IntKind.i64 (IntKind.wrap IntKind.u8 (byteAt (tk.bs [a]) (0 : Nat) - (48 : Int))))) (4607182418800017408 : Nat)) (some r)) ∧
     ((x = r) ∧
     ((v = true) ∧
     True))))))
   (br (decide (IntKind.wrap IntKind.i64 (IntKind.wrap IntKind.u8 (byteAt (tk.bs [a]) (0 : Nat) - (48 : Int))) > (1 : Int)))
    ((x = (0 : Nat)) ∧
    ((v = false) ∧
    True))
    (∃ r : Nat, ((Eq (α := Option Nat) (fA BinOp.quo FloatKind.f64 (FloatKind.nearest FloatKind.f64 (IntKind.wrap IntKind.i64 (IntKind.wrap IntKind.u8 (byteAt (tk.bs [a]) (0 : Nat) - (48 : Int))))) (4607182418800017408 : Nat)) (some r)) ∧
    ((x = r) ∧
    ((v = true) ∧
    True)))))) := by kernel_rfl
theorem q2_vc (a b : UInt8) (x : Nat) (v : Bool) : mcall E0 noM 60 12 [.string (tk.bs [a, b])] ⟨mkR (nums 0 []), 0⟩ (retIs 0 (.tuple #[.float .f64 x, .bool v]) []) =
  (br (byteAt (tk.bs [a, b]) (0 : Nat) != (48 : Int))
   (br (byteAt (tk.bs [a, b]) (0 : Nat) != (49 : Int))
    ((x = (0 : Nat)) ∧
    ((v = false) ∧
    True))
    (br (byteAt (tk.bs [a, b]) (1 : Nat) != (46 : Int))
     ((x = (0 : Nat)) ∧
     ((v = false) ∧
     True))
     (br (decide (IntKind.wrap IntKind.i64 (IntKind.wrap IntKind.u8 (byteAt (tk.bs [a, b]) (0 : Nat) - (48 : Int))) > (1 : Int)))
      ((x = (0 : Nat)) ∧
      ((v = false) ∧
      True))
      (∃ r : Nat, ((Eq (α := Option Nat) (fA BinOp.quo FloatKind.f64 (FloatKind.nearest FloatKind.f64 (IntKind.wrap IntKind.i64 (IntKind.wrap IntKind.u8 (byteAt (tk.bs [a, b]) (0 : Nat) - (48 : Int))))) (4607182418800017408 : Nat)) (some r)) ∧
      ((x = r) ∧
      ((v = true) ∧
      True)))))))
   (br (byteAt (tk.bs [a, b]) (1 : Nat) != (46 : Int))
    ((x = (0 : Nat)) ∧
    ((v = false) ∧
    True))
    (br (decide (IntKind.wrap IntKind.i64 (IntKind.wrap IntKind.u8 (byteAt (tk.bs [a, b]) (0 : Nat) - (48 : Int))) > (1 : Int)))
     ((x = (0 : Nat)) ∧
     ((v = false) ∧
     True))
     (∃ r : Nat, ((Eq (α := Option Nat) (fA BinOp.quo FloatKind.f64 (FloatKind.nearest FloatKind.f64 (IntKind.wrap IntKind.i64 (IntKind.wrap IntKind.u8 (byteAt (tk.bs [a, b]) (0 : Nat) - (48 : Int))))) (4607182418800017408 : Nat)) (some r)) ∧
     ((x = r) ∧
     ((v = true) ∧
     True))))))) := by kernel_rfl
theorem q3_vc (a b c : UInt8) (x : Nat) (v : Bool) : mcall E0 noM 60 12 [.string (tk.bs [a, b, c])] ⟨mkR (nums 0 []), 0⟩ (retIs 0 (.tuple #[.float .f64 x, .bool v]) []) =
  (br (byteAt (tk.bs [a, b, c]) (0 : Nat) != (48 : Int))
   (br (byteAt (tk.bs [a, b, c]) (0 : Nat) != (49 : Int))
    ((x = (0 : Nat)) ∧
    ((v = false) ∧
    True))
    (br (byteAt (tk.bs [a, b, c]) (1 : Nat) != (46 : Int))
     ((x = (0 : Nat)) ∧
     ((v = false) ∧
     True))
     (br (decide (byteAt (tk.bs [a, b, c]) (2 : Nat) < (48 : Int)))
      ((x = (0 : Nat)) ∧
      ((v = false) ∧
      True))
      (br (decide (byteAt (tk.bs [a, b, c]) (2 : Nat) > (57 : Int)))
       ((x = (0 : Nat)) ∧
       ((v = false) ∧
       True))
       (br (decide (IntKind.wrap IntKind.i64 (IntKind.wrap IntKind.i64 (IntKind.wrap IntKind.i64 (IntKind.wrap IntKind.u8 (byteAt (tk.bs [a, b, c]) (0 : Nat) - (48 : Int))) * (10 : Int)) + IntKind.wrap IntKind.i64 (IntKind.wrap IntKind.u8 (byteAt (tk.bs [a, b, c]) (2 : Nat) - (48 : Int)))) > (10 : Int)))
        ((x = (0 : Nat)) ∧
        ((v = false) ∧
        True))
        (∃ r : Nat, ((Eq (α := Option Nat) (fA BinOp.quo FloatKind.f64 (FloatKind.nearest FloatKind.f64 (IntKind.wrap IntKind.i64 (IntKind.wrap IntKind.i64 (IntKind.wrap IntKind.i64 (IntKind.wrap IntKind.u8 (byteAt (tk.bs [a, b, c]) (0 : Nat) - (48 : Int))) * (10 : Int)) + IntKind.wrap IntKind.i64 (IntKind.wrap IntKind.u8 (byteAt (tk.bs [a, b, c]) (2 : Nat) - (48 : Int)))))) (4621819117588971520 : Nat)) (some r)) ∧
        ((x = r) ∧
        ((v = true) ∧
        True)))))))))
   (br (byteAt (tk.bs [a, b, c]) (1 : Nat) != (46 : Int))
    ((x = (0 : Nat)) ∧
    ((v = false) ∧
    True))
    (br (decide (byteAt (tk.bs [a, b, c]) (2 : Nat) < (48 : Int)))
     ((x = (0 : Nat)) ∧
     ((v = false) ∧
     True))
     (br (decide (byteAt (tk.bs [a, b, c]) (2 : Nat) > (57 : Int)))
      ((x = (0 : Nat)) ∧
      ((v = false) ∧
      True))
      (br (decide (IntKind.wrap IntKind.i64 (IntKind.wrap IntKind.i64 (IntKind.wrap IntKind.i64 (IntKind.wrap IntKind.u8 (byteAt (tk.bs [a, b, c]) (0 : Nat) - (48 : Int))) * (10 : Int)) + IntKind.wrap IntKind.i64 (IntKind.wrap IntKind.u8 (byteAt (tk.bs [a, b, c]) (2 : Nat) - (48 : Int)))) > (10 : Int)))
       ((x = (0 : Nat)) ∧
       ((v = false) ∧
       True))
       (∃ r : Nat, ((Eq (α := Option Nat) (fA BinOp.quo FloatKind.f64 (FloatKind.nearest FloatKind.f64 (IntKind.wrap IntKind.i64 (IntKind.wrap IntKind.i64 (IntKind.wrap IntKind.i64 (IntKind.wrap IntKind.u8 (byteAt (tk.bs [a, b, c]) (0 : Nat) - (48 : Int))) * (10 : Int)) + IntKind.wrap IntKind.i64 (IntKind.wrap IntKind.u8 (byteAt (tk.bs [a, b, c]) (2 : Nat) - (48 : Int)))))) (4621819117588971520 : Nat)) (some r)) ∧
       ((x = r) ∧
       ((v = true) ∧
       True))))))))) := by kernel_rfl
theorem q4_vc (a b c d : UInt8) (x : Nat) (v : Bool) : mcall E0 noM 60 12 [.string (tk.bs [a, b, c, d])] ⟨mkR (nums 0 []), 0⟩ (retIs 0 (.tuple #[.float .f64 x, .bool v]) []) =
  (br (byteAt (tk.bs [a, b, c, d]) (0 : Nat) != (48 : Int))
   (br (byteAt (tk.bs [a, b, c, d]) (0 : Nat) != (49 : Int))
    ((x = (0 : Nat)) ∧
    ((v = false) ∧
    True))
    (br (byteAt (tk.bs [a, b, c, d]) (1 : Nat) != (46 : Int))
     ((x = (0 : Nat)) ∧
     ((v = false) ∧
     True))
     (br (decide (byteAt (tk.bs [a, b, c, d]) (2 : Nat) < (48 : Int)))
      ((x = (0 : Nat)) ∧
      ((v = false) ∧
      True))
      (br (decide (byteAt (tk.bs [a, b, c, d]) (2 : Nat) > (57 : Int)))
       ((x = (0 : Nat)) ∧
       ((v = false) ∧
       True))
       (br (decide (byteAt (tk.bs [a, b, c, d]) (3 : Nat) < (48 : Int)))
        ((x = (0 : Nat)) ∧
        ((v = false) ∧
        True))
        (br (decide (byteAt (tk.bs [a, b, c, d]) (3 : Nat) > (57 : Int)))
         ((x = (0 : Nat)) ∧
         ((v = false) ∧
         True))
         (br (decide (IntKind.wrap IntKind.i64 (IntKind.wrap IntKind.i64 (IntKind.wrap IntKind.i64 (IntKind.wrap IntKind.i64 (IntKind.wrap IntKind.i64 (IntKind.wrap IntKind.u8 (byteAt (tk.bs [a, b, c, d]) (0 : Nat) - (48 : Int))) * (10 : Int)) + IntKind.wrap IntKind.i64 (IntKind.wrap IntKind.u8 (byteAt (tk.bs [a, b, c, d]) (2 : Nat) - (48 : Int)))) * (10 : Int)) + IntKind.wrap IntKind.i64 (IntKind.wrap IntKind.u8 (byteAt (tk.bs [a, b, c, d]) (3 : Nat) - (48 : Int)))) > (100 : Int)))
          ((x = (0 : Nat)) ∧
          ((v = false) ∧
          True))
          (∃ r : Nat, ((Eq (α := Option Nat) (fA BinOp.quo FloatKind.f64 (FloatKind.nearest FloatKind.f64 (IntKind.wrap IntKind.i64 (IntKind.wrap IntKind.i64 (IntKind.wrap IntKind.i64 (IntKind.wrap IntKind.i64 (IntKind.wrap IntKind.i64 (IntKind.wrap IntKind.u8 (byteAt (tk.bs [a, b, c, d]) (0 : Nat) - (48 : Int))) * (10 : Int)) + IntKind.wrap IntKind.i64 (IntKind.wrap IntKind.u8 (byteAt (tk.bs [a, b, c, d]) (2 : Nat) - (48 : Int)))) * (10 : Int)) + IntKind.wrap IntKind.i64 (IntKind.wrap IntKind.u8 (byteAt (tk.bs [a, b, c, d]) (3 : Nat) - (48 : Int)))))) (4636737291354636288 : Nat)) (some r)) ∧
          ((x = r) ∧
          ((v = true) ∧
          True)))))))))))
   (br (byteAt (tk.bs [a, b, c, d]) (1 : Nat) != (46 : Int))
    ((x = (0 : Nat)) ∧
    ((v = false) ∧
    True))
    (br (decide (byteAt (tk.bs [a, b, c, d]) (2 : Nat) < (48 : Int)))
     ((x = (0 : Nat)) ∧
     ((v = false) ∧
     True))
     (br (decide (byteAt (tk.bs [a, b, c, d]) (2 : Nat) > (57 : Int)))
      ((x = (0 : Nat)) ∧
      ((v = false) ∧
      True))
      (br (decide (byteAt (tk.bs [a, b, c, d]) (3 : Nat) < (48 : Int)))
       ((x = (0 : Nat)) ∧
       ((v = false) ∧
       True))
       (br (decide (byteAt (tk.bs [a, b, c, d]) (3 : Nat) > (57 : Int)))
        ((x = (0 : Nat)) ∧
        ((v = false) ∧
        True))
        (br (decide (IntKind.wrap IntKind.i64 (IntKind.wrap IntKind.i64 (IntKind.wrap IntKind.i64 (IntKind.wrap IntKind.i64 (IntKind.wrap IntKind.i64 (IntKind.wrap IntKind.u8 (byteAt (tk.bs [a, b, c, d]) (0 : Nat) - (48 : Int))) * (10 : Int)) + IntKind.wrap IntKind.i64 (IntKind.wrap IntKind.u8 (byteAt (tk.bs [a, b, c, d]) (2 : Nat) - (48 : Int)))) * (10 : Int)) + IntKind.wrap IntKind.i64 (IntKind.wrap IntKind.u8 (byteAt (tk.bs [a, b, c, d]) (3 : Nat) - (48 : Int)))) > (100 : Int)))
         ((x = (0 : Nat)) ∧
         ((v = false) ∧
         True))
         (∃ r : Nat, ((Eq (α := Option Nat) (fA BinOp.quo FloatKind.f64 (FloatKind.nearest FloatKind.f64 (IntKind.wrap IntKind.i64 (IntKind.wrap IntKind.i64 (IntKind.wrap IntKind.i64 (IntKind.wrap IntKind.i64 (IntKind.wrap IntKind.i64 (IntKind.wrap IntKind.u8 (byteAt (tk.bs [a, b, c, d]) (0 : Nat) - (48 : Int))) * (10 : Int)) + IntKind.wrap IntKind.i64 (IntKind.wrap IntKind.u8 (byteAt (tk.bs [a, b, c, d]) (2 : Nat) - (48 : Int)))) * (10 : Int)) + IntKind.wrap IntKind.i64 (IntKind.wrap IntKind.u8 (byteAt (tk.bs [a, b, c, d]) (3 : Nat) - (48 : Int)))))) (4636737291354636288 : Nat)) (some r)) ∧
         ((x = r) ∧
         ((v = true) ∧
         True))))))))))) := by kernel_rfl
theorem q5_vc (a b c d e : UInt8) (x : Nat) (v : Bool) : mcall E0 noM 60 12 [.string (tk.bs [a, b, c, d, e])] ⟨mkR (nums 0 []), 0⟩ (retIs 0 (.tuple #[.float .f64 x, .bool v]) []) =
  (br (byteAt (tk.bs [a, b, c, d, e]) (0 : Nat) != (48 : Int))
   (br (byteAt (tk.bs [a, b, c, d, e]) (0 : Nat) != (49 : Int))
    ((x = (0 : Nat)) ∧
    ((v = false) ∧
    True))
    (br (byteAt (tk.bs [a, b, c, d, e]) (1 : Nat) != (46 : Int))
     ((x = (0 : Nat)) ∧
     ((v = false) ∧
     True))
     (br (decide (byteAt (tk.bs [a, b, c, d, e]) (2 : Nat) < (48 : Int)))
      ((x = (0 : Nat)) ∧
      ((v = false) ∧
      True))
      (br (decide (byteAt (tk.bs [a, b, c, d, e]) (2 : Nat) > (57 : Int)))
       ((x = (0 : Nat)) ∧
       ((v = false) ∧
       True))
       (br (decide (byteAt (tk.bs [a, b, c, d, e]) (3 : Nat) < (48 : Int)))
        ((x = (0 : Nat)) ∧
        ((v = false) ∧
        True))
        (br (decide (byteAt (tk.bs [a, b, c, d, e]) (3 : Nat) > (57 : Int)))
         ((x = (0 : Nat)) ∧
         ((v = false) ∧
         True))
         (br (decide (byteAt (tk.bs [a, b, c, d, e]) (4 : Nat) < (48 : Int)))
          ((x = (0 : Nat)) ∧
          ((v = false) ∧
          True))
          (br (decide (byteAt (tk.bs [a, b, c, d, e]) (4 : Nat) > (57 : Int)))
           ((x = (0 : Nat)) ∧
           ((v = false) ∧
           True))
           (br (decide (IntKind.wrap IntKind.i64 (IntKind.wrap IntKind.i64 (IntKind.wrap IntKind.i64 (IntKind.wrap IntKind.i64 (IntKind.wrap IntKind.i64 (IntKind.wrap IntKind.i64 (IntKind.wrap IntKind.i64 (IntKind.wrap IntKind.u8 (byteAt (tk.bs [a, b, c, d, e]) (0 : Nat) - (48 : Int))) * (10 : Int)) + IntKind.wrap IntKind.i64 (IntKind.wrap IntKind.u8 (byteAt (tk.bs [a, b, c, d, e]) (2 : Nat) - (48 : Int)))) * (10 : Int)) + IntKind.wrap IntKind.i64 (IntKind.wrap IntKind.u8 (byteAt (tk.bs [a, b, c, d, e]) (3 : Nat) - (48 : Int)))) * (10 : Int)) + IntKind.wrap IntKind.i64 (IntKind.wrap IntKind.u8 (byteAt (tk.bs [a, b, c, d, e]) (4 : Nat) - (48 : Int)))) > (1000 : Int)))
            ((x = (0 : Nat)) ∧
            ((v = false) ∧
            True))
            (∃ r : Nat, ((Eq (α := Option Nat) (fA BinOp.quo FloatKind.f64 (FloatKind.nearest FloatKind.f64 (IntKind.wrap IntKind.i64 (IntKind.wrap IntKind.i64 (IntKind.wrap IntKind.i64 (IntKind.wrap IntKind.i64 (IntKind.wrap IntKind.i64 (IntKind.wrap IntKind.i64 (IntKind.wrap IntKind.i64 (IntKind.wrap IntKind.u8 (byteAt (tk.bs [a, b, c, d, e]) (0 : Nat) - (48 : Int))) * (10 : Int)) + IntKind.wrap IntKind.i64 (IntKind.wrap IntKind.u8 (byteAt (tk.bs [a, b, c, d, e]) (2 : Nat) - (48 : Int)))) * (10 : Int)) + IntKind.wrap IntKind.i64 (IntKind.wrap IntKind.u8 (byteAt (tk.bs [a, b, c, d, e]) (3 : Nat) - (48 : Int)))) * (10 : Int)) + IntKind.wrap IntKind.i64 (IntKind.wrap IntKind.u8 (byteAt (tk.bs [a, b, c, d, e]) (4 : Nat) - (48 : Int)))))) (4652007308841189376 : Nat)) (some r)) ∧
            ((x = r) ∧
            ((v = true) ∧
            True)))))))))))))
   (br (byteAt (tk.bs [a, b, c, d, e]) (1 : Nat) != (46 : Int))
    ((x = (0 : Nat)) ∧
    ((v = false) ∧
    True))
    (br (decide (byteAt (tk.bs [a, b, c, d, e]) (2 : Nat) < (48 : Int)))
     ((x = (0 : Nat)) ∧
     ((v = false) ∧
     True))
     (br (decide (byteAt (tk.bs [a, b, c, d, e]) (2 : Nat) > (57 : Int)))
      ((x = (0 : Nat)) ∧
      ((v = false) ∧
      True))
      (br (decide (byteAt (tk.bs [a, b, c, d, e]) (3 : Nat) < (48 : Int)))
       ((x = (0 : Nat)) ∧
       ((v = false) ∧
       True))
       (br (decide (byteAt (tk.bs [a, b, c, d, e]) (3 : Nat) > (57 : Int)))
        ((x = (0 : Nat)) ∧
        ((v = false) ∧
        True))
        (br (decide (byteAt (tk.bs [a, b, c, d, e]) (4 : Nat) < (48 : Int)))
         ((x = (0 : Nat)) ∧
         ((v = false) ∧
         True))
         (br (decide (byteAt (tk.bs [a, b, c, d, e]) (4 : Nat) > (57 : Int)))
          ((x = (0 : Nat)) ∧
          ((v = false) ∧
          True))
          (br (decide (IntKind.wrap IntKind.i64 (IntKind.wrap IntKind.i64 (IntKind.wrap IntKind.i64 (IntKind.wrap IntKind.i64 (IntKind.wrap IntKind.i64 (IntKind.wrap IntKind.i64 (IntKind.wrap IntKind.i64 (IntKind.wrap IntKind.u8 (byteAt (tk.bs [a, b, c, d, e]) (0 : Nat) - (48 : Int))) * (10 : Int)) + IntKind.wrap IntKind.i64 (IntKind.wrap IntKind.u8 (byteAt (tk.bs [a, b, c, d, e]) (2 : Nat) - (48 : Int)))) * (10 : Int)) + IntKind.wrap IntKind.i64 (IntKind.wrap IntKind.u8 (byteAt (tk.bs [a, b, c, d, e]) (3 : Nat) - (48 : Int)))) * (10 : Int)) + IntKind.wrap IntKind.i64 (IntKind.wrap IntKind.u8 (byteAt (tk.bs [a, b, c, d, e]) (4 : Nat) - (48 : Int)))) > (1000 : Int)))
           ((x = (0 : Nat)) ∧
           ((v = false) ∧
           True))
           (∃ r : Nat, ((Eq (α := Option Nat) (fA BinOp.quo FloatKind.f64 (FloatKind.nearest FloatKind.f64 (IntKind.wrap IntKind.i64 (IntKind.wrap IntKind.i64 (IntKind.wrap IntKind.i64 (IntKind.wrap IntKind.i64 (IntKind.wrap IntKind.i64 (IntKind.wrap IntKind.i64 (IntKind.wrap IntKind.i64 (IntKind.wrap IntKind.u8 (byteAt (tk.bs [a, b, c, d, e]) (0 : Nat) - (48 : Int))) * (10 : Int)) + IntKind.wrap IntKind.i64 (IntKind.wrap IntKind.u8 (byteAt (tk.bs [a, b, c, d, e]) (2 : Nat) - (48 : Int)))) * (10 : Int)) + IntKind.wrap IntKind.i64 (IntKind.wrap IntKind.u8 (byteAt (tk.bs [a, b, c, d, e]) (3 : Nat) - (48 : Int)))) * (10 : Int)) + IntKind.wrap IntKind.i64 (IntKind.wrap IntKind.u8 (byteAt (tk.bs [a, b, c, d, e]) (4 : Nat) - (48 : Int)))))) (4652007308841189376 : Nat)) (some r)) ∧
           ((x = r) ∧
           ((v = true) ∧
           True))))))))))))) := by kernel_rfl
theorem qL_vc (s : ByteArray) (x : Nat) (v : Bool) : mcall E0 mCq 60 12 [.string s] ⟨mkR (nums 0 []), 0⟩ (retIs 0 (.tuple #[.float .f64 x, .bool v]) []) =
  (br (strEq s (ByteArray.mk #[]))
   ((x = (0 : Nat)) ∧
   ((v = false) ∧
   True))
   (br (decide (Int.ofNat (List.length (Array.toList (ByteArray.data s))) > (5 : Int)))
    ((x = (0 : Nat)) ∧
    ((v = false) ∧
    True))
    (br (decide ((0 : Int) ≤ (0 : Int) ∧ (0 : Int) < (↑(List.length (Array.toList (ByteArray.data s))) : Int)))
     (br (byteAt s (0 : Nat) != (48 : Int))
      (br (decide ((0 : Int) ≤ (0 : Int) ∧ (0 : Int) < (↑(List.length (Array.toList (ByteArray.data s))) : Int)))
       (br (byteAt s (0 : Nat) != (49 : Int))
        ((x = (0 : Nat)) ∧
        ((v = false) ∧
        True))
        (br (decide (Int.ofNat (List.length (Array.toList (ByteArray.data s))) > (1 : Int)))
         (br (decide ((0 : Int) ≤ (1 : Int) ∧ (1 : Int) < (↑(List.length (Array.toList (ByteArray.data s))) : Int)))
          (br (byteAt s (1 : Nat) != (46 : Int))
           ((x = (0 : Nat)) ∧
           ((v = false) ∧
           True))
           (br (decide ((0 : Int) ≤ (0 : Int) ∧ (0 : Int) < (↑(List.length (Array.toList (ByteArray.data s))) : Int)))
            False
            False))
          False)
         (br (decide ((0 : Int) ≤ (0 : Int) ∧ (0 : Int) < (↑(List.length (Array.toList (ByteArray.data s))) : Int)))
          False
          False)))
       False)
      (br (decide (Int.ofNat (List.length (Array.toList (ByteArray.data s))) > (1 : Int)))
       (br (decide ((0 : Int) ≤ (1 : Int) ∧ (1 : Int) < (↑(List.length (Array.toList (ByteArray.data s))) : Int)))
        (br (byteAt s (1 : Nat) != (46 : Int))
         ((x = (0 : Nat)) ∧
         ((v = false) ∧
         True))
         (br (decide ((0 : Int) ≤ (0 : Int) ∧ (0 : Int) < (↑(List.length (Array.toList (ByteArray.data s))) : Int)))
          False
          False))
        False)
       (br (decide ((0 : Int) ≤ (0 : Int) ∧ (0 : Int) < (↑(List.length (Array.toList (ByteArray.data s))) : Int)))
        False
        False)))
     False))) := by kernel_rfl
theorem r0_vc (x : Nat) (v : Bool) : mcall E0 noM 60 25 [.string (tk.bs [])] ⟨mkR (nums 0 []), 0⟩ (retIs 0 (.tuple #[.float .f64 x, .bool v]) []) =
  ((x = (0 : Nat)) ∧
  ((v = false) ∧
  True)) := by kernel_rfl
theorem r1_vc (a : UInt8) (x : Nat) (v : Bool) : mcall E0 noM 60 25 [.string (tk.bs [a])] ⟨mkR (nums 0 []), 0⟩ (retIs 0 (.tuple #[.float .f64 x, .bool v]) []) =
  (br (byteAt (tk.bs [a]) (0 : Nat) != (48 : Int))
   (br (byteAt (tk.bs [a]) (0 : Nat) != (49 : Int))
    ((x = (0 : Nat)) ∧
    ((v = false) ∧
    True))
    (br (decide (IntKind.wrap IntKind.i64 (IntKind.wrap IntKind.u8 (byteAt (tk.bs [a]) (0 : Nat) - (48 : Int))) > (1 : Int)))
     ((x = (0 : Nat)) ∧
     ((v = false) ∧
     True))
     (∃ r : Nat, ((Eq (α := Option Nat) (fA BinOp.quo FloatKind.f64 (FloatKind.nearest FloatKind.f64 (IntKind.wrap IntKind.i64 (IntKind.wrap IntKind.u8 (byteAt (tk.bs [a]) (0 : Nat) - (48 : Int))))) (4607182418800017408 : Nat)) (some r)) ∧
     ((x = r) ∧
     ((v = true) ∧
     True))))))
   (br (decide (IntKind.wrap IntKind.i64 (IntKind.wrap IntKind.u8 (byteAt (tk.bs [a]) (0 : Nat) - (48 : Int))) > (1 : Int)))
    ((x = (0 : Nat)) ∧
    ((v = false) ∧
    True))
    (∃ r : Nat, ((Eq (α := Option Nat) (fA BinOp.quo FloatKind.f64 (FloatKind.nearest FloatKind.f64 (IntKind.wrap IntKind.i64 (IntKind.wrap IntKind.u8 (byteAt (tk.bs [a]) (0 : Nat) - (48 : Int))))) (4607182418800017408 : Nat)) (some r)) ∧
    ((x = r) ∧
    ((v = true) ∧
    True)))))) := by kernel_rfl
theorem r2_vc (a b : UInt8) (x : Nat) (v : Bool) : mcall E0 noM 60 25 [.string (tk.bs [a, b])] ⟨mkR (nums 0 []), 0⟩ (retIs 0 (.tuple #[.float .f64 x, .bool v]) []) =
  (br (byteAt (tk.bs [a, b]) (0 : Nat) != (48 : Int))
   (br (byteAt (tk.bs [a, b]) (0 : Nat) != (49 : Int))
    ((x = (0 : Nat)) ∧
    ((v = false) ∧
    True))
    (br (byteAt (tk.bs [a, b]) (1 : Nat) != (46 : Int))
     ((x = (0 : Nat)) ∧
     ((v = false) ∧
     True))
     (br (decide (IntKind.wrap IntKind.i64 (IntKind.wrap IntKind.u8 (byteAt (tk.bs [a, b]) (0 : Nat) - (48 : Int))) > (1 : Int)))
      ((x = (0 : Nat)) ∧
      ((v = false) ∧
      True))
      (∃ r : Nat, ((Eq (α := Option Nat) (fA BinOp.quo FloatKind.f64 (FloatKind.nearest FloatKind.f64 (IntKind.wrap IntKind.i64 (IntKind.wrap IntKind.u8 (byteAt (tk.bs [a, b]) (0 : Nat) - (48 : Int))))) (4607182418800017408 : Nat)) (some r)) ∧
      ((x = r) ∧
      ((v = true) ∧
      True)))))))
   (br (byteAt (tk.bs [a, b]) (1 : Nat) != (46 : Int))
    ((x = (0 : Nat)) ∧
    ((v = false) ∧
    True))
    (br (decide (IntKind.wrap IntKind.i64 (IntKind.wrap IntKind.u8 (byteAt (tk.bs [a, b]) (0 : Nat) - (48 : Int))) > (1 : Int)))
     ((x = (0 : Nat)) ∧
     ((v = false) ∧
     True))
     (∃ r : Nat, ((Eq (α := Option Nat) (fA BinOp.quo FloatKind.f64 (FloatKind.nearest FloatKind.f64 (IntKind.wrap IntKind.i64 (IntKind.wrap IntKind.u8 (byteAt (tk.bs [a, b]) (0 : Nat) - (48 : Int))))) (4607182418800017408 : Nat)) (some r)) ∧
     ((x = r) ∧
     ((v = true) ∧
     True))))))) := by kernel_rfl
theorem r3_vc (a b c : UInt8) (x : Nat) (v : Bool) : mcall E0 noM 60 25 [.string (tk.bs [a, b, c])] ⟨mkR (nums 0 []), 0⟩ (retIs 0 (.tuple #[.float .f64 x, .bool v]) []) =
  (br (byteAt (tk.bs [a, b, c]) (0 : Nat) != (48 : Int))
   (br (byteAt (tk.bs [a, b, c]) (0 : Nat) != (49 : Int))
    ((x = (0 : Nat)) ∧
    ((v = false) ∧
    True))
    (br (byteAt (tk.bs [a, b, c]) (1 : Nat) != (46 : Int))
     ((x = (0 : Nat)) ∧
     ((v = false) ∧
     True))
     (br (decide (byteAt (tk.bs [a, b, c]) (2 : Nat) < (48 : Int)))
      ((x = (0 : Nat)) ∧
      ((v = false) ∧
      True))
      (br (decide (byteAt (tk.bs [a, b, c]) (2 : Nat) > (57 : Int)))
       ((x = (0 : Nat)) ∧
       ((v = false) ∧
       True))
       (br (decide (IntKind.wrap IntKind.i64 (IntKind.wrap IntKind.i64 (IntKind.wrap IntKind.i64 (IntKind.wrap IntKind.u8 (byteAt (tk.bs [a, b, c]) (0 : Nat) - (48 : Int))) * (10 : Int)) + IntKind.wrap IntKind.i64 (IntKind.wrap IntKind.u8 (byteAt (tk.bs [a, b, c]) (2 : Nat) - (48 : Int)))) > (10 : Int)))
        ((x = (0 : Nat)) ∧
        ((v = false) ∧
        True))
        (∃ r : Nat, ((Eq (α := Option Nat) (fA BinOp.quo FloatKind.f64 (FloatKind.nearest FloatKind.f64 (IntKind.wrap IntKind.i64 (IntKind.wrap IntKind.i64 (IntKind.wrap IntKind.i64 (IntKind.wrap IntKind.u8 (byteAt (tk.bs [a, b, c]) (0 : Nat) - (48 : Int))) * (10 : Int)) + IntKind.wrap IntKind.i64 (IntKind.wrap IntKind.u8 (byteAt (tk.bs [a, b, c]) (2 : Nat) - (48 : Int)))))) (4621819117588971520 : Nat)) (some r)) ∧
        ((x = r) ∧
        ((v = true) ∧
        True)))))))))
   (br (byteAt (tk.bs [a, b, c]) (1 : Nat) != (46 : Int))
    ((x = (0 : Nat)) ∧
    ((v = false) ∧
    True))
    (br (decide (byteAt (tk.bs [a, b, c]) (2 : Nat) < (48 : Int)))
     ((x = (0 : Nat)) ∧
     ((v = false) ∧
     True))
     (br (decide (byteAt (tk.bs [a, b, c]) (2 : Nat) > (57 : Int)))
      ((x = (0 : Nat)) ∧
      ((v = false) ∧
      True))
      (br (decide (IntKind.wrap IntKind.i64 (IntKind.wrap IntKind.i64 (IntKind.wrap IntKind.i64 (IntKind.wrap IntKind.u8 (byteAt (tk.bs [a, b, c]) (0 : Nat) - (48 : Int))) * (10 : Int)) + IntKind.wrap IntKind.i64 (IntKind.wrap IntKind.u8 (byteAt (tk.bs [a, b, c]) (2 : Nat) - (48 : Int)))) > (10 : Int)))
       ((x = (0 : Nat)) ∧
       ((v = false) ∧
       True))
       (∃ r : Nat, ((Eq (α := Option Nat) (fA BinOp.quo FloatKind.f64 (FloatKind.nearest FloatKind.f64 (IntKind.wrap IntKind.i64 (IntKind.wrap IntKind.i64 (IntKind.wrap IntKind.i64 (IntKind.wrap IntKind.u8 (byteAt (tk.bs [a, b, c]) (0 : Nat) - (48 : Int))) * (10 : Int)) + IntKind.wrap IntKind.i64 (IntKind.wrap IntKind.u8 (byteAt (tk.bs [a, b, c]) (2 : Nat) - (48 : Int)))))) (4621819117588971520 : Nat)) (some r)) ∧
       ((x = r) ∧
       ((v = true) ∧
       True))))))))) := by kernel_rfl
theorem r4_vc (a b c d : UInt8) (x : Nat) (v : Bool) : mcall E0 noM 60 25 [.string (tk.bs [a, b, c, d])] ⟨mkR (nums 0 []), 0⟩ (retIs 0 (.tuple #[.float .f64 x, .bool v]) []) =
  (br (byteAt (tk.bs [a, b, c, d]) (0 : Nat) != (48 : Int))
   (br (byteAt (tk.bs [a, b, c, d]) (0 : Nat) != (49 : Int))
    ((x = (0 : Nat)) ∧
    ((v = false) ∧
    True))
    (br (byteAt (tk.bs [a, b, c, d]) (1 : Nat) != (46 : Int))
     ((x = (0 : Nat)) ∧
     ((v = false) ∧
     True))
     (br (decide (byteAt (tk.bs [a, b, c, d]) (2 : Nat) < (48 : Int)))
      ((x = (0 : Nat)) ∧
      ((v = false) ∧
      True))
      (br (decide (byteAt (tk.bs [a, b, c, d]) (2 : Nat) > (57 : Int)))
       ((x = (0 : Nat)) ∧
       ((v = false) ∧
       True))
       (br (decide (byteAt (tk.bs [a, b, c, d]) (3 : Nat) < (48 : Int)))
        ((x = (0 : Nat)) ∧
        ((v = false) ∧
        True))
        (br (decide (byteAt (tk.bs [a, b, c, d]) (3 : Nat) > (57 : Int)))
         ((x = (0 : Nat)) ∧
         ((v = false) ∧
         True))
         (br (decide (IntKind.wrap IntKind.i64 (IntKind.wrap IntKind.i64 (IntKind.wrap IntKind.i64 (IntKind.wrap IntKind.i64 (IntKind.wrap IntKind.i64 (IntKind.wrap IntKind.u8 (byteAt (tk.bs [a, b, c, d]) (0 : Nat) - (48 : Int))) * (10 : Int)) + IntKind.wrap IntKind.i64 (IntKind.wrap IntKind.u8 (byteAt (tk.bs [a, b, c, d]) (2 : Nat) - (48 : Int)))) * (10 : Int)) + IntKind.wrap IntKind.i64 (IntKind.wrap IntKind.u8 (byteAt (tk.bs [a, b, c, d]) (3 : Nat) - (48 : Int)))) > (100 : Int)))
          ((x = (0 : Nat)) ∧
          ((v = false) ∧
          True))
          (∃ r : Nat, ((Eq (α := Option Nat) (fA BinOp.quo FloatKind.f64 (FloatKind.nearest FloatKind.f64 (IntKind.wrap IntKind.i64 (IntKind.wrap IntKind.i64 (IntKind.wrap IntKind.i64 (IntKind.wrap IntKind.i64 (IntKind.wrap IntKind.i64 (IntKind.wrap IntKind.u8 (byteAt (tk.bs [a, b, c, d]) (0 : Nat) - (48 : Int))) * (10 : Int)) + IntKind.wrap IntKind.i64 (IntKind.wrap IntKind.u8 (byteAt (tk.bs [a, b, c, d]) (2 : Nat) - (48 : Int)))) * (10 : Int)) + IntKind.wrap IntKind.i64 (IntKind.wrap IntKind.u8 (byteAt (tk.bs [a, b, c, d]) (3 : Nat) - (48 : Int)))))) (4636737291354636288 : Nat)) (some r)) ∧
          ((x = r) ∧
          ((v = true) ∧
          True)))))))))))
   (br (byteAt (tk.bs [a, b, c, d]) (1 : Nat) != (46 : Int))
    ((x = (0 : Nat)) ∧
    ((v = false) ∧
    True))
    (br (decide (byteAt (tk.bs [a, b, c, d]) (2 : Nat) < (48 : Int)))
     ((x = (0 : Nat)) ∧
     ((v = false) ∧
     True))
     (br (decide (byteAt (tk.bs [a, b, c, d]) (2 : Nat) > (57 : Int)))
      ((x = (0 : Nat)) ∧
      ((v = false) ∧
      True))
      (br (decide (byteAt (tk.bs [a, b, c, d]) (3 : Nat) < (48 : Int)))
       ((x = (0 : Nat)) ∧
       ((v = false) ∧
       True))
       (br (decide (byteAt (tk.bs [a, b, c, d]) (3 : Nat) > (57 : Int)))
        ((x = (0 : Nat)) ∧
        ((v = false) ∧
        True))
        (br (decide (IntKind.wrap IntKind.i64 (IntKind.wrap IntKind.i64 (IntKind.wrap IntKind.i64 (IntKind.wrap IntKind.i64 (IntKind.wrap IntKind.i64 (IntKind.wrap IntKind.u8 (byteAt (tk.bs [a, b, c, d]) (0 : Nat) - (48 : Int))) * (10 : Int)) + IntKind.wrap IntKind.i64 (IntKind.wrap IntKind.u8 (byteAt (tk.bs [a, b, c, d]) (2 : Nat) - (48 : Int)))) * (10 : Int)) + IntKind.wrap IntKind.i64 (IntKind.wrap IntKind.u8 (byteAt (tk.bs [a, b, c, d]) (3 : Nat) - (48 : Int)))) > (100 : Int)))
         ((x = (0 : Nat)) ∧
         ((v = false) ∧
         True))
         (∃ r : Nat, ((Eq (α := Option Nat) (fA BinOp.quo FloatKind.f64 (FloatKind.nearest FloatKind.f64 (IntKind.wrap IntKind.i64 (IntKind.wrap IntKind.i64 (IntKind.wrap IntKind.i64 (IntKind.wrap IntKind.i64 (IntKind.wrap IntKind.i64 (IntKind.wrap IntKind.u8 (byteAt (tk.bs [a, b, c, d]) (0 : Nat) - (48 : Int))) * (10 : Int)) + IntKind.wrap IntKind.i64 (IntKind.wrap IntKind.u8 (byteAt (tk.bs [a, b, c, d]) (2 : Nat) - (48 : Int)))) * (10 : Int)) + IntKind.wrap IntKind.i64 (IntKind.wrap IntKind.u8 (byteAt (tk.bs [a, b, c, d]) (3 : Nat) - (48 : Int)))))) (4636737291354636288 : Nat)) (some r)) ∧
         ((x = r) ∧
         ((v = true) ∧
         True))))))))))) := by kernel_rfl
theorem r5_vc (a b c d e : UInt8) (x : Nat) (v : Bool) : mcall E0 noM 60 25 [.string (tk.bs [a, b, c, d, e])] ⟨mkR (nums 0 []), 0⟩ (retIs 0 (.tuple #[.float .f64 x, .bool v]) []) =
  (br (byteAt (tk.bs [a, b, c, d, e]) (0 : Nat) != (48 : Int))
   (br (byteAt (tk.bs [a, b, c, d, e]) (0 : Nat) != (49 : Int))
    ((x = (0 : Nat)) ∧
    ((v = false) ∧
    True))
    (br (byteAt (tk.bs [a, b, c, d, e]) (1 : Nat) != (46 : Int))
     ((x = (0 : Nat)) ∧
     ((v = false) ∧
     True))
     (br (decide (byteAt (tk.bs [a, b, c, d, e]) (2 : Nat) < (48 : Int)))
      ((x = (0 : Nat)) ∧
      ((v = false) ∧
      True))
      (br (decide (byteAt (tk.bs [a, b, c, d, e]) (2 : Nat) > (57 : Int)))
       ((x = (0 : Nat)) ∧
       ((v = false) ∧
       True))
       (br (decide (byteAt (tk.bs [a, b, c, d, e]) (3 : Nat) < (48 : Int)))
        ((x = (0 : Nat)) ∧
        ((v = false) ∧
        True))
        (br (decide (byteAt (tk.bs [a, b, c, d, e]) (3 : Nat) > (57 : Int)))
         ((x = (0 : Nat)) ∧
         ((v = false) ∧
         True))
         (br (decide (byteAt (tk.bs [a, b, c, d, e]) (4 : Nat) < (48 : Int)))
          ((x = (0 : Nat)) ∧
          ((v = false) ∧
          True))
          (br (decide (byteAt (tk.bs [a, b, c, d, e]) (4 : Nat) > (57 : Int)))
           ((x = (0 : Nat)) ∧
           ((v = false) ∧
           True))
           (br (decide (IntKind.wrap IntKind.i64 (IntKind.wrap IntKind.i64 (IntKind.wrap IntKind.i64 (IntKind.wrap IntKind.i64 (IntKind.wrap IntKind.i64 (IntKind.wrap IntKind.i64 (IntKind.wrap IntKind.i64 (IntKind.wrap IntKind.u8 (byteAt (tk.bs [a, b, c, d, e]) (0 : Nat) - (48 : Int))) * (10 : Int)) + IntKind.wrap IntKind.i64 (IntKind.wrap IntKind.u8 (byteAt (tk.bs [a, b, c, d, e]) (2 : Nat) - (48 : Int)))) * (10 : Int)) + IntKind.wrap IntKind.i64 (IntKind.wrap IntKind.u8 (byteAt (tk.bs [a, b, c, d, e]) (3 : Nat) - (48 : Int)))) * (10 : Int)) + IntKind.wrap IntKind.i64 (IntKind.wrap IntKind.u8 (byteAt (tk.bs [a, b, c, d, e]) (4 : Nat) - (48 : Int)))) > (1000 : Int)))
            ((x = (0 : Nat)) ∧
            ((v = false) ∧
            True))
            (∃ r : Nat, ((Eq (α := Option Nat) (fA BinOp.quo FloatKind.f64 (FloatKind.nearest FloatKind.f64 (IntKind.wrap IntKind.i64 (IntKind.wrap IntKind.i64 (IntKind.wrap IntKind.i64 (IntKind.wrap IntKind.i64 (IntKind.wrap IntKind.i64 (IntKind.wrap IntKind.i64 (IntKind.wrap IntKind.i64 (IntKind.wrap IntKind.u8 (byteAt (tk.bs [a, b, c, d, e]) (0 : Nat) - (48 : Int))) * (10 : Int)) + IntKind.wrap IntKind.i64 (IntKind.wrap IntKind.u8 (byteAt (tk.bs [a, b, c, d, e]) (2 : Nat) - (48 : Int)))) * (10 : Int)) + IntKind.wrap IntKind.i64 (IntKind.wrap IntKind.u8 (byteAt (tk.bs [a, b, c, d, e]) (3 : Nat) - (48 : Int)))) * (10 : Int)) + IntKind.wrap IntKind.i64 (IntKind.wrap IntKind.u8 (byteAt (tk.bs [a, b, c, d, e]) (4 : Nat) - (48 : Int)))))) (4652007308841189376 : Nat)) (some r)) ∧
            ((x = r) ∧
            ((v = true) ∧
            True)))))))))))))
   (br (byteAt (tk.bs [a, b, c, d, e]) (1 : Nat) != (46 : Int))
    ((x = (0 : Nat)) ∧
    ((v = false) ∧
    True))
    (br (decide (byteAt (tk.bs [a, b, c, d, e]) (2 : Nat) < (48 : Int)))
     ((x = (0 : Nat)) ∧
     ((v = false) ∧
     True))
     (br (decide (byteAt (tk.bs [a, b, c, d, e]) (2 : Nat) > (57 : Int)))
      ((x = (0 : Nat)) ∧
      ((v = false) ∧
      True))
      (br (decide (byteAt (tk.bs [a, b, c, d, e]) (3 : Nat) < (48 : Int)))
       ((x = (0 : Nat)) ∧
       ((v = false) ∧
       True))
       (br (decide (byteAt (tk.bs [a, b, c, d, e]) (3 : Nat) > (57 : Int)))
        ((x = (0 : Nat)) ∧
        ((v = false) ∧
        True))
        (br (decide (byteAt (tk.bs [a, b, c, d, e]) (4 : Nat) < (48 : Int)))
         ((x = (0 : Nat)) ∧
         ((v = false) ∧
         True))
         (br (decide (byteAt (tk.bs [a, b, c, d, e]) (4 : Nat) > (57 : Int)))
          ((x = (0 : Nat)) ∧
          ((v = false) ∧
          True))
          (br (decide (IntKind.wrap IntKind.i64 (IntKind.wrap IntKind.i64 (IntKind.wrap IntKind.i64 (IntKind.wrap IntKind.i64 (IntKind.wrap IntKind.i64 (IntKind.wrap IntKind.i64 (IntKind.wrap IntKind.i64 (IntKind.wrap IntKind.u8 (byteAt (tk.bs [a, b, c, d, e]) (0 : Nat) - (48 : Int))) * (10 : Int)) + IntKind.wrap IntKind.i64 (IntKind.wrap IntKind.u8 (byteAt (tk.bs [a, b, c, d, e]) (2 : Nat) - (48 : Int)))) * (10 : Int)) + IntKind.wrap IntKind.i64 (IntKind.wrap IntKind.u8 (byteAt (tk.bs [a, b, c, d, e]) (3 : Nat) - (48 : Int)))) * (10 : Int)) + IntKind.wrap IntKind.i64 (IntKind.wrap IntKind.u8 (byteAt (tk.bs [a, b, c, d, e]) (4 : Nat) - (48 : Int)))) > (1000 : Int)))
           ((x = (0 : Nat)) ∧
           ((v = false) ∧
           True))
           (∃ r : Nat, ((Eq (α := Option Nat) (fA BinOp.quo FloatKind.f64 (FloatKind.nearest FloatKind.f64 (IntKind.wrap IntKind.i64 (IntKind.wrap IntKind.i64 (IntKind.wrap IntKind.i64 (IntKind.wrap IntKind.i64 (IntKind.wrap IntKind.i64 (IntKind.wrap IntKind.i64 (IntKind.wrap IntKind.i64 (IntKind.wrap IntKind.u8 (byteAt (tk.bs [a, b, c, d, e]) (0 : Nat) - (48 : Int))) * (10 : Int)) + IntKind.wrap IntKind.i64 (IntKind.wrap IntKind.u8 (byteAt (tk.bs [a, b, c, d, e]) (2 : Nat) - (48 : Int)))) * (10 : Int)) + IntKind.wrap IntKind.i64 (IntKind.wrap IntKind.u8 (byteAt (tk.bs [a, b, c, d, e]) (3 : Nat) - (48 : Int)))) * (10 : Int)) + IntKind.wrap IntKind.i64 (IntKind.wrap IntKind.u8 (byteAt (tk.bs [a, b, c, d, e]) (4 : Nat) - (48 : Int)))))) (4652007308841189376 : Nat)) (some r)) ∧
           ((x = r) ∧
           ((v = true) ∧
           True))))))))))))) := by kernel_rfl
theorem rL_vc (s : ByteArray) (x : Nat) (v : Bool) : mcall E0 mCr 60 25 [.string s] ⟨mkR (nums 0 []), 0⟩ (retIs 0 (.tuple #[.float .f64 x, .bool v]) []) =
  (br (strEq s (ByteArray.mk #[]))
   ((x = (0 : Nat)) ∧
   ((v = false) ∧
   True))
   (br (decide ((0 : Int) ≤ (0 : Int) ∧ (0 : Int) < (↑(List.length (Array.toList (ByteArray.data s))) : Int)))
    (br (byteAt s (0 : Nat) != (48 : Int))
     (br (decide ((0 : Int) ≤ (0 : Int) ∧ (0 : Int) < (↑(List.length (Array.toList (ByteArray.data s))) : Int)))
      (br (byteAt s (0 : Nat) != (49 : Int))
       ((x = (0 : Nat)) ∧
       ((v = false) ∧
       True))
       (br (decide (Int.ofNat (List.length (Array.toList (ByteArray.data s))) > (1 : Int)))
        (br (decide ((0 : Int) ≤ (1 : Int) ∧ (1 : Int) < (↑(List.length (Array.toList (ByteArray.data s))) : Int)))
         (br (byteAt s (1 : Nat) != (46 : Int))
          ((x = (0 : Nat)) ∧
          ((v = false) ∧
          True))
          (br (decide (Int.ofNat (List.length (Array.toList (ByteArray.data s))) > (5 : Int)))
           ((x = (0 : Nat)) ∧
           ((v = false) ∧
           True))
           (br (decide ((0 : Int) ≤ (0 : Int) ∧ (0 : Int) < (↑(List.length (Array.toList (ByteArray.data s))) : Int)))
            False
            False)))
         False)
        (br (decide (Int.ofNat (List.length (Array.toList (ByteArray.data s))) > (5 : Int)))
         ((x = (0 : Nat)) ∧
         ((v = false) ∧
         True))
         (br (decide ((0 : Int) ≤ (0 : Int) ∧ (0 : Int) < (↑(List.length (Array.toList (ByteArray.data s))) : Int)))
          False
          False))))
      False)
     (br (decide (Int.ofNat (List.length (Array.toList (ByteArray.data s))) > (1 : Int)))
      (br (decide ((0 : Int) ≤ (1 : Int) ∧ (1 : Int) < (↑(List.length (Array.toList (ByteArray.data s))) : Int)))
       (br (byteAt s (1 : Nat) != (46 : Int))
        ((x = (0 : Nat)) ∧
        ((v = false) ∧
        True))
        (br (decide (Int.ofNat (List.length (Array.toList (ByteArray.data s))) > (5 : Int)))
         ((x = (0 : Nat)) ∧
         ((v = false) ∧
         True))
         (br (decide ((0 : Int) ≤ (0 : Int) ∧ (0 : Int) < (↑(List.length (Array.toList (ByteArray.data s))) : Int)))
          False
          False)))
       False)
      (br (decide (Int.ofNat (List.length (Array.toList (ByteArray.data s))) > (5 : Int)))
       ((x = (0 : Nat)) ∧
       ((v = false) ∧
       True))
       (br (decide ((0 : Int) ≤ (0 : Int) ∧ (0 : Int) < (↑(List.length (Array.toList (ByteArray.data s))) : Int)))
        False
        False))))
    False)) := by kernel_rfl
theorem y0 (a : UInt8) (l : List UInt8) : byteAt (tk.bs (a :: l)) 0 = (a.toNat : Int) := rfl
theorem y1 (a b : UInt8) (l : List UInt8) : byteAt (tk.bs (a :: b :: l)) 1 = (b.toNat : Int) := rfl
theorem y2 (a b c : UInt8) (l : List UInt8) : byteAt (tk.bs (a :: b :: c :: l)) 2 = (c.toNat : Int) := rfl
theorem y3 (a b c d : UInt8) (l : List UInt8) : byteAt (tk.bs (a :: b :: c :: d :: l)) 3 = (d.toNat : Int) := rfl
theorem y4 (a b c d e : UInt8) (l : List UInt8) : byteAt (tk.bs (a :: b :: c :: d :: e :: l)) 4 = (e.toNat : Int) := rfl
theorem u8w (a : UInt8) : ∃ k : Int, IntKind.u8.wrap ((a.toNat : Int) - 48) = k ∧ IntKind.i64.wrap k = k ∧ 0 ≤ k ∧ k ≤ 255 ∧ (48 ≤ a.toNat → k = dgt a) := by
  have h0 := a.toNat_lt
  have e : IntKind.u8.wrap ((a.toNat : Int) - 48) = ((a.toNat : Int) - 48) % 256 := rfl
  refine ⟨_, rfl, ?_, ?_, ?_, ?_⟩
  · rw [e, wr64_id (by unfold I64; omega)]
  · rw [e]; omega
  · rw [e]; omega
  · intro h; rw [e]; unfold dgt; omega
theorem quo_num {a b m n : Nat} {s t : Bool} {i j : Int} (ha : rd a = .number s m i) (hb : rd b = .number t n j) (hn : n ≠ 0) : ∃ r, fA .quo .f64 a b = some r := by
  have e : fA .quo .f64 a b = ((rd a).quotient 54 (rd b)).map Ieee.double.write := rfl
  rw [e, ha, hb]
  unfold Ieee.Datum.quotient
  simp only
  rw [if_neg hn]
  exact ⟨_, rfl⟩
theorem q_ex (n d : Int) (h0 : 0 ≤ n) (h1 : n ≤ 1000000) (h2 : 0 < d) (h3 : d ≤ 1000) : fA .quo .f64 (FloatKind.f64.nearest n) (FloatKind.f64.nearest d) = some ((fA .quo .f64 (FloatKind.f64.nearest n) (FloatKind.f64.nearest d)).getD 0) := by
  obtain ⟨e, m, i, a1⟩ := near_int n h0 (by omega)
  obtain ⟨e2, m2, i2, a2⟩ := near_int d (by omega) (by omega)
  have hm : m2 ≠ 0 := by
    intro h
    subst h
    rw [fv_num a2] at e2
    have hp := p2i 1074
    have : 0 < d * (p2 1074 : Int) := Int.mul_pos h2 hp
    rw [Nat.zero_mul] at e2
    omega
  obtain ⟨r, h⟩ := quo_num a1 a2 hm
  rw [h]; rfl
theorem n1 : FloatKind.f64.nearest 1 = 4607182418800017408 := by decide
theorem n10 : FloatKind.f64.nearest 10 = 4621819117588971520 := by decide
theorem n100 : FloatKind.f64.nearest 100 = 4636737291354636288 := by decide
theorem n1000 : FloatKind.f64.nearest 1000 = 4652007308841189376 := by decide
theorem br_bne {x y : Int} {p q : Prop} (h1 : x ≠ y → p) (h2 : x = y → q) : br (x != y) p q := by
  by_cases h : x = y
  · have e : (x != y) = false := by simp [h]
    rw [e]; exact h2 h
  · have e : (x != y) = true := by simp [h]
    rw [e]; exact h1 h
theorem q_bad {l : List UInt8} (h : qOk l = false) : qX l = 0 ∧ qOk l = false := ⟨by unfold qX; rw [h]; rfl, h⟩
theorem q_good {l : List UInt8} {n d : Int} {w : Nat} (h : qOk l = true) (hn : qN l = n) (hd : qS l = d) (hw : FloatKind.f64.nearest d = w) (h0 : 0 ≤ n) (h1 : n ≤ 1000000) (h2 : 0 < d) (h3 : d ≤ 1000) : ∃ r, fA .quo .f64 (FloatKind.f64.nearest n) w = some r ∧ qX l = r ∧ qOk l = true := by
  refine ⟨_, ?_, rfl, h⟩
  unfold qX
  rw [h, hn, hd, ← hw]
  exact q_ex n d h0 h1 h2 h3
theorem ok1 (a : UInt8) : qOk [a] = decide ((a.toNat = 48 ∨ a.toNat = 49) ∧ qN [a] ≤ qS [a]) := by
  unfold qOk isD
  simp only [List.all_cons, List.all_nil, List.length_cons, List.length_nil]
  rw [Bool.eq_iff_iff]
  simp [and_assoc]
theorem ok2 (a b : UInt8) : qOk [a, b] = decide ((a.toNat = 48 ∨ a.toNat = 49) ∧ b.toNat = 46 ∧ qN [a, b] ≤ qS [a, b]) := by
  unfold qOk isD
  simp only [List.all_cons, List.all_nil, List.length_cons, List.length_nil]
  rw [Bool.eq_iff_iff]
  simp [and_assoc]
theorem ok3 (a b c : UInt8) : qOk [a, b, c] = decide ((a.toNat = 48 ∨ a.toNat = 49) ∧ b.toNat = 46 ∧ (48 ≤ c.toNat ∧ c.toNat ≤ 57) ∧ qN [a, b, c] ≤ qS [a, b, c]) := by
  unfold qOk isD
  simp only [List.all_cons, List.all_nil, List.length_cons, List.length_nil]
  rw [Bool.eq_iff_iff]
  simp [and_assoc]
theorem ok4 (a b c d : UInt8) : qOk [a, b, c, d] = decide ((a.toNat = 48 ∨ a.toNat = 49) ∧ b.toNat = 46 ∧ (48 ≤ c.toNat ∧ c.toNat ≤ 57) ∧ (48 ≤ d.toNat ∧ d.toNat ≤ 57) ∧ qN [a, b, c, d] ≤ qS [a, b, c, d]) := by
  unfold qOk isD
  simp only [List.all_cons, List.all_nil, List.length_cons, List.length_nil]
  rw [Bool.eq_iff_iff]
  simp [and_assoc]
theorem ok5 (a b c d e : UInt8) : qOk [a, b, c, d, e] = decide ((a.toNat = 48 ∨ a.toNat = 49) ∧ b.toNat = 46 ∧ (48 ≤ c.toNat ∧ c.toNat ≤ 57) ∧ (48 ≤ d.toNat ∧ d.toNat ≤ 57) ∧ (48 ≤ e.toNat ∧ e.toNat ≤ 57) ∧ qN [a, b, c, d, e] ≤ qS [a, b, c, d, e]) := by
  unfold qOk isD
  simp only [List.all_cons, List.all_nil, List.length_cons, List.length_nil]
  rw [Bool.eq_iff_iff]
  simp [and_assoc]
theorem q0_con : Con Try.prog 12 [.string (tk.bs [])] [] (.tuple #[.float .f64 (qX []), .bool (qOk [])]) [] := by
  refine con_vc (E := E0) mixed (calls_envN _) (lok_envN _) (M := noM) lm_none (q0_vc _ _) ?_
  simp only [ofNat_eq, toNat_cast, Nat.zero_add, Nat.add_zero, Nat.mul_one, List.drop_zero, bCells_len, bCells_drop, bCells_take, bCells_app, bCells_one, bCells_plain, List.length_replicate, List.length_append, List.length_take, List.length_drop, List.take_length, and_true, true_and, and_self, decide_true, List.length_nil, List.length_cons, Nat.sub_zero, dB_mk, dB_ro, List.take_zero]
  exact q_bad rfl
theorem q1_con (a : UInt8) : Con Try.prog 12 [.string (tk.bs [a])] [] (.tuple #[.float .f64 (qX [a]), .bool (qOk [a])]) [] := by
  refine con_vc (E := E0) mixed (calls_envN _) (lok_envN _) (M := noM) lm_none (q1_vc a _ _) ?_
  have ta := a.toNat_lt
  obtain ⟨ka, wa, za, la, ha, ea⟩ := u8w a
  simp only [ofNat_eq, toNat_cast, Nat.zero_add, Nat.add_zero, Nat.mul_one, List.drop_zero, bCells_len, bCells_drop, bCells_take, bCells_app, bCells_one, bCells_plain, List.length_replicate, List.length_append, List.length_take, List.length_drop, List.take_length, and_true, true_and, and_self, decide_true, List.length_nil, List.length_cons, Nat.sub_zero, dB_mk, dB_ro, List.take_zero, y0, wa, za]
  have hN : 48 ≤ a.toNat → qN [a] = ka := by
    intro ia
    unfold qN
    rw [ea ia]
  have hS : qS [a] = 1 := rfl
  have hB : ¬ ((a.toNat = 48 ∨ a.toNat = 49) ∧ qN [a] ≤ qS [a]) → qX [a] = 0 ∧ qOk [a] = false := fun h => q_bad (by rw [ok1]; exact decide_eq_false h)
  have hG : ((a.toNat = 48 ∨ a.toNat = 49) ∧ qN [a] ≤ qS [a]) → ∃ r, fA .quo .f64 (FloatKind.f64.nearest ka) 4607182418800017408 = some r ∧ qX [a] = r ∧ qOk [a] = true := by
    intro h
    have e := hN (by omega)
    exact q_good (by rw [ok1]; exact decide_eq_true h) e hS n1 (by omega) (by omega) (by omega) (by omega)
  repeat' first | exact hB (by omega) | exact hG (by omega) | refine br_if (fun _ => ?_) (fun _ => ?_) | refine br_bne (fun _ => ?_) (fun _ => ?_)
theorem q2_con (a b : UInt8) : Con Try.prog 12 [.string (tk.bs [a, b])] [] (.tuple #[.float .f64 (qX [a, b]), .bool (qOk [a, b])]) [] := by
  refine con_vc (E := E0) mixed (calls_envN _) (lok_envN _) (M := noM) lm_none (q2_vc a b _ _) ?_
  have ta := a.toNat_lt
  have tb := b.toNat_lt
  obtain ⟨ka, wa, za, la, ha, ea⟩ := u8w a
  simp only [ofNat_eq, toNat_cast, Nat.zero_add, Nat.add_zero, Nat.mul_one, List.drop_zero, bCells_len, bCells_drop, bCells_take, bCells_app, bCells_one, bCells_plain, List.length_replicate, List.length_append, List.length_take, List.length_drop, List.take_length, and_true, true_and, and_self, decide_true, List.length_nil, List.length_cons, Nat.sub_zero, dB_mk, dB_ro, List.take_zero, y0, y1, wa, za]
  have hN : 48 ≤ a.toNat → qN [a, b] = ka := by
    intro ia
    unfold qN
    rw [ea ia]
  have hS : qS [a, b] = 1 := rfl
  have hB : ¬ ((a.toNat = 48 ∨ a.toNat = 49) ∧ b.toNat = 46 ∧ qN [a, b] ≤ qS [a, b]) → qX [a, b] = 0 ∧ qOk [a, b] = false := fun h => q_bad (by rw [ok2]; exact decide_eq_false h)
  have hG : ((a.toNat = 48 ∨ a.toNat = 49) ∧ b.toNat = 46 ∧ qN [a, b] ≤ qS [a, b]) → ∃ r, fA .quo .f64 (FloatKind.f64.nearest ka) 4607182418800017408 = some r ∧ qX [a, b] = r ∧ qOk [a, b] = true := by
    intro h
    have e := hN (by omega)
    exact q_good (by rw [ok2]; exact decide_eq_true h) e hS n1 (by omega) (by omega) (by omega) (by omega)
  repeat' first | exact hB (by omega) | exact hG (by omega) | refine br_if (fun _ => ?_) (fun _ => ?_) | refine br_bne (fun _ => ?_) (fun _ => ?_)
theorem q3_con (a b c : UInt8) : Con Try.prog 12 [.string (tk.bs [a, b, c])] [] (.tuple #[.float .f64 (qX [a, b, c]), .bool (qOk [a, b, c])]) [] := by
  refine con_vc (E := E0) mixed (calls_envN _) (lok_envN _) (M := noM) lm_none (q3_vc a b c _ _) ?_
  have ta := a.toNat_lt
  have tb := b.toNat_lt
  have tc := c.toNat_lt
  obtain ⟨ka, wa, za, la, ha, ea⟩ := u8w a
  obtain ⟨kc, wc, zc, lc, hc, ec⟩ := u8w c
  simp only [ofNat_eq, toNat_cast, Nat.zero_add, Nat.add_zero, Nat.mul_one, List.drop_zero, bCells_len, bCells_drop, bCells_take, bCells_app, bCells_one, bCells_plain, List.length_replicate, List.length_append, List.length_take, List.length_drop, List.take_length, and_true, true_and, and_self, decide_true, List.length_nil, List.length_cons, Nat.sub_zero, dB_mk, dB_ro, List.take_zero, y0, y1, y2, wa, za, wc, zc]
  have uc : IntKind.i64.wrap (ka * 10) = ka * 10 := wr64_id (by unfold I64; omega)
  have vc : IntKind.i64.wrap (ka * 10 + kc) = ka * 10 + kc := wr64_id (by unfold I64; omega)
  simp only [uc, vc]
  have hN : 48 ≤ a.toNat → 48 ≤ c.toNat → qN [a, b, c] = (ka * 10 + kc) := by
    intro ia ic
    unfold qN
    rw [ea ia, ec ic]
  have hS : qS [a, b, c] = 10 := rfl
  have hB : ¬ ((a.toNat = 48 ∨ a.toNat = 49) ∧ b.toNat = 46 ∧ (48 ≤ c.toNat ∧ c.toNat ≤ 57) ∧ qN [a, b, c] ≤ qS [a, b, c]) → qX [a, b, c] = 0 ∧ qOk [a, b, c] = false := fun h => q_bad (by rw [ok3]; exact decide_eq_false h)
  have hG : ((a.toNat = 48 ∨ a.toNat = 49) ∧ b.toNat = 46 ∧ (48 ≤ c.toNat ∧ c.toNat ≤ 57) ∧ qN [a, b, c] ≤ qS [a, b, c]) → ∃ r, fA .quo .f64 (FloatKind.f64.nearest (ka * 10 + kc)) 4621819117588971520 = some r ∧ qX [a, b, c] = r ∧ qOk [a, b, c] = true := by
    intro h
    have e := hN (by omega) (by omega)
    exact q_good (by rw [ok3]; exact decide_eq_true h) e hS n10 (by omega) (by omega) (by omega) (by omega)
  repeat' first | exact hB (by omega) | exact hG (by omega) | refine br_if (fun _ => ?_) (fun _ => ?_) | refine br_bne (fun _ => ?_) (fun _ => ?_)
theorem q4_con (a b c d : UInt8) : Con Try.prog 12 [.string (tk.bs [a, b, c, d])] [] (.tuple #[.float .f64 (qX [a, b, c, d]), .bool (qOk [a, b, c, d])]) [] := by
  refine con_vc (E := E0) mixed (calls_envN _) (lok_envN _) (M := noM) lm_none (q4_vc a b c d _ _) ?_
  have ta := a.toNat_lt
  have tb := b.toNat_lt
  have tc := c.toNat_lt
  have td := d.toNat_lt
  obtain ⟨ka, wa, za, la, ha, ea⟩ := u8w a
  obtain ⟨kc, wc, zc, lc, hc, ec⟩ := u8w c
  obtain ⟨kd, wd, zd, ld, hd, ed⟩ := u8w d
  simp only [ofNat_eq, toNat_cast, Nat.zero_add, Nat.add_zero, Nat.mul_one, List.drop_zero, bCells_len, bCells_drop, bCells_take, bCells_app, bCells_one, bCells_plain, List.length_replicate, List.length_append, List.length_take, List.length_drop, List.take_length, and_true, true_and, and_self, decide_true, List.length_nil, List.length_cons, Nat.sub_zero, dB_mk, dB_ro, List.take_zero, y0, y1, y2, y3, wa, za, wc, zc, wd, zd]
  have uc : IntKind.i64.wrap (ka * 10) = ka * 10 := wr64_id (by unfold I64; omega)
  have vc : IntKind.i64.wrap (ka * 10 + kc) = ka * 10 + kc := wr64_id (by unfold I64; omega)
  simp only [uc, vc]
  have ud : IntKind.i64.wrap ((ka * 10 + kc) * 10) = (ka * 10 + kc) * 10 := wr64_id (by unfold I64; omega)
  have vd : IntKind.i64.wrap ((ka * 10 + kc) * 10 + kd) = (ka * 10 + kc) * 10 + kd := wr64_id (by unfold I64; omega)
  simp only [ud, vd]
  have hN : 48 ≤ a.toNat → 48 ≤ c.toNat → 48 ≤ d.toNat → qN [a, b, c, d] = ((ka * 10 + kc) * 10 + kd) := by
    intro ia ic id
    unfold qN
    rw [ea ia, ec ic, ed id]
  have hS : qS [a, b, c, d] = 100 := rfl
  have hB : ¬ ((a.toNat = 48 ∨ a.toNat = 49) ∧ b.toNat = 46 ∧ (48 ≤ c.toNat ∧ c.toNat ≤ 57) ∧ (48 ≤ d.toNat ∧ d.toNat ≤ 57) ∧ qN [a, b, c, d] ≤ qS [a, b, c, d]) → qX [a, b, c, d] = 0 ∧ qOk [a, b, c, d] = false := fun h => q_bad (by rw [ok4]; exact decide_eq_false h)
  have hG : ((a.toNat = 48 ∨ a.toNat = 49) ∧ b.toNat = 46 ∧ (48 ≤ c.toNat ∧ c.toNat ≤ 57) ∧ (48 ≤ d.toNat ∧ d.toNat ≤ 57) ∧ qN [a, b, c, d] ≤ qS [a, b, c, d]) → ∃ r, fA .quo .f64 (FloatKind.f64.nearest ((ka * 10 + kc) * 10 + kd)) 4636737291354636288 = some r ∧ qX [a, b, c, d] = r ∧ qOk [a, b, c, d] = true := by
    intro h
    have e := hN (by omega) (by omega) (by omega)
    exact q_good (by rw [ok4]; exact decide_eq_true h) e hS n100 (by omega) (by omega) (by omega) (by omega)
  repeat' first | exact hB (by omega) | exact hG (by omega) | refine br_if (fun _ => ?_) (fun _ => ?_) | refine br_bne (fun _ => ?_) (fun _ => ?_)
theorem q5_con (a b c d e : UInt8) : Con Try.prog 12 [.string (tk.bs [a, b, c, d, e])] [] (.tuple #[.float .f64 (qX [a, b, c, d, e]), .bool (qOk [a, b, c, d, e])]) [] := by
  refine con_vc (E := E0) mixed (calls_envN _) (lok_envN _) (M := noM) lm_none (q5_vc a b c d e _ _) ?_
  have ta := a.toNat_lt
  have tb := b.toNat_lt
  have tc := c.toNat_lt
  have td := d.toNat_lt
  have te := e.toNat_lt
  obtain ⟨ka, wa, za, la, ha, ea⟩ := u8w a
  obtain ⟨kc, wc, zc, lc, hc, ec⟩ := u8w c
  obtain ⟨kd, wd, zd, ld, hd, ed⟩ := u8w d
  obtain ⟨ke, we, ze, le, he, ee⟩ := u8w e
  simp only [ofNat_eq, toNat_cast, Nat.zero_add, Nat.add_zero, Nat.mul_one, List.drop_zero, bCells_len, bCells_drop, bCells_take, bCells_app, bCells_one, bCells_plain, List.length_replicate, List.length_append, List.length_take, List.length_drop, List.take_length, and_true, true_and, and_self, decide_true, List.length_nil, List.length_cons, Nat.sub_zero, dB_mk, dB_ro, List.take_zero, y0, y1, y2, y3, y4, wa, za, wc, zc, wd, zd, we, ze]
  have uc : IntKind.i64.wrap (ka * 10) = ka * 10 := wr64_id (by unfold I64; omega)
  have vc : IntKind.i64.wrap (ka * 10 + kc) = ka * 10 + kc := wr64_id (by unfold I64; omega)
  simp only [uc, vc]
  have ud : IntKind.i64.wrap ((ka * 10 + kc) * 10) = (ka * 10 + kc) * 10 := wr64_id (by unfold I64; omega)
  have vd : IntKind.i64.wrap ((ka * 10 + kc) * 10 + kd) = (ka * 10 + kc) * 10 + kd := wr64_id (by unfold I64; omega)
  simp only [ud, vd]
  have ue : IntKind.i64.wrap (((ka * 10 + kc) * 10 + kd) * 10) = ((ka * 10 + kc) * 10 + kd) * 10 := wr64_id (by unfold I64; omega)
  have ve : IntKind.i64.wrap (((ka * 10 + kc) * 10 + kd) * 10 + ke) = ((ka * 10 + kc) * 10 + kd) * 10 + ke := wr64_id (by unfold I64; omega)
  simp only [ue, ve]
  have hN : 48 ≤ a.toNat → 48 ≤ c.toNat → 48 ≤ d.toNat → 48 ≤ e.toNat → qN [a, b, c, d, e] = (((ka * 10 + kc) * 10 + kd) * 10 + ke) := by
    intro ia ic id ie
    unfold qN
    rw [ea ia, ec ic, ed id, ee ie]
  have hS : qS [a, b, c, d, e] = 1000 := rfl
  have hB : ¬ ((a.toNat = 48 ∨ a.toNat = 49) ∧ b.toNat = 46 ∧ (48 ≤ c.toNat ∧ c.toNat ≤ 57) ∧ (48 ≤ d.toNat ∧ d.toNat ≤ 57) ∧ (48 ≤ e.toNat ∧ e.toNat ≤ 57) ∧ qN [a, b, c, d, e] ≤ qS [a, b, c, d, e]) → qX [a, b, c, d, e] = 0 ∧ qOk [a, b, c, d, e] = false := fun h => q_bad (by rw [ok5]; exact decide_eq_false h)
  have hG : ((a.toNat = 48 ∨ a.toNat = 49) ∧ b.toNat = 46 ∧ (48 ≤ c.toNat ∧ c.toNat ≤ 57) ∧ (48 ≤ d.toNat ∧ d.toNat ≤ 57) ∧ (48 ≤ e.toNat ∧ e.toNat ≤ 57) ∧ qN [a, b, c, d, e] ≤ qS [a, b, c, d, e]) → ∃ r, fA .quo .f64 (FloatKind.f64.nearest (((ka * 10 + kc) * 10 + kd) * 10 + ke)) 4652007308841189376 = some r ∧ qX [a, b, c, d, e] = r ∧ qOk [a, b, c, d, e] = true := by
    intro h
    have e := hN (by omega) (by omega) (by omega) (by omega)
    exact q_good (by rw [ok5]; exact decide_eq_true h) e hS n1000 (by omega) (by omega) (by omega) (by omega)
  repeat' first | exact hB (by omega) | exact hG (by omega) | refine br_if (fun _ => ?_) (fun _ => ?_) | refine br_bne (fun _ => ?_) (fun _ => ?_)
theorem qL_con (s : ByteArray) (h : 5 < s.data.toList.length) (hm : s.data.toList.length ≤ maxLen) : Con Try.prog 12 [.string s] [] (.tuple #[.float .f64 0, .bool false]) [] := by
  have hm : maxLen = 9223372036854775807 := by unfold maxLen; rfl
  refine con_vc (E := E0) mixed (calls_envN _) (lok_envN _) (M := mCq) (lm_one (fun _ _ _ _ _ _ _ _ _ _ h => h.elim)) (qL_vc s _ _) ?_
  simp only [ofNat_eq, toNat_cast, Nat.zero_add, Nat.add_zero, Nat.mul_one, List.drop_zero, bCells_len, bCells_drop, bCells_take, bCells_app, bCells_one, bCells_plain, List.length_replicate, List.length_append, List.length_take, List.length_drop, List.take_length, and_true, true_and, and_self, decide_true, List.length_nil, List.length_cons, Nat.sub_zero, dB_mk, dB_ro, List.take_zero]
  repeat' first | exact trivial | refine br_dec (by omega) ?_ | refine br_intro (fun _ => ?_) (fun _ => ?_)
theorem q_con (s : ByteArray) (hm : s.data.toList.length ≤ maxLen) : Con Try.prog 12 [.string s] [] (.tuple #[.float .f64 (qxS s), .bool (qoS s)]) [] := by
  rw [qxS_eq, qoS_eq]
  obtain ⟨l, rfl⟩ : ∃ l, s = tk.bs l := ⟨s.data.toList, rfl⟩
  have e : (tk.bs l).data.toList = l := rfl
  rw [e] at hm ⊢
  match l with
  | [] => exact q0_con
  | [a] => exact q1_con a
  | [a, b] => exact q2_con a b
  | [a, b, c] => exact q3_con a b c
  | [a, b, c, d] => exact q4_con a b c d
  | [a, b, c, d, e] => exact q5_con a b c d e
  | a :: b :: c :: d :: e :: f :: t =>
    have hq : qOk (a :: b :: c :: d :: e :: f :: t) = false := by
      have h5 : decide ((a :: b :: c :: d :: e :: f :: t).length ≤ 5) = false := decide_eq_false (by simp only [List.length_cons]; omega)
      unfold qOk
      rw [h5]; simp
    rw [(q_bad hq).1, hq]
    exact qL_con _ (by show 5 < (a :: b :: c :: d :: e :: f :: t).length; simp only [List.length_cons]; omega) hm
theorem r0_con : Con Try.prog 25 [.string (tk.bs [])] [] (.tuple #[.float .f64 (qX []), .bool (qOk [])]) [] := by
  refine con_vc (E := E0) mixed (calls_envN _) (lok_envN _) (M := noM) lm_none (r0_vc _ _) ?_
  simp only [ofNat_eq, toNat_cast, Nat.zero_add, Nat.add_zero, Nat.mul_one, List.drop_zero, bCells_len, bCells_drop, bCells_take, bCells_app, bCells_one, bCells_plain, List.length_replicate, List.length_append, List.length_take, List.length_drop, List.take_length, and_true, true_and, and_self, decide_true, List.length_nil, List.length_cons, Nat.sub_zero, dB_mk, dB_ro, List.take_zero]
  exact q_bad rfl
theorem r1_con (a : UInt8) : Con Try.prog 25 [.string (tk.bs [a])] [] (.tuple #[.float .f64 (qX [a]), .bool (qOk [a])]) [] := by
  refine con_vc (E := E0) mixed (calls_envN _) (lok_envN _) (M := noM) lm_none (r1_vc a _ _) ?_
  have ta := a.toNat_lt
  obtain ⟨ka, wa, za, la, ha, ea⟩ := u8w a
  simp only [ofNat_eq, toNat_cast, Nat.zero_add, Nat.add_zero, Nat.mul_one, List.drop_zero, bCells_len, bCells_drop, bCells_take, bCells_app, bCells_one, bCells_plain, List.length_replicate, List.length_append, List.length_take, List.length_drop, List.take_length, and_true, true_and, and_self, decide_true, List.length_nil, List.length_cons, Nat.sub_zero, dB_mk, dB_ro, List.take_zero, y0, wa, za]
  have hN : 48 ≤ a.toNat → qN [a] = ka := by
    intro ia
    unfold qN
    rw [ea ia]
  have hS : qS [a] = 1 := rfl
  have hB : ¬ ((a.toNat = 48 ∨ a.toNat = 49) ∧ qN [a] ≤ qS [a]) → qX [a] = 0 ∧ qOk [a] = false := fun h => q_bad (by rw [ok1]; exact decide_eq_false h)
  have hG : ((a.toNat = 48 ∨ a.toNat = 49) ∧ qN [a] ≤ qS [a]) → ∃ r, fA .quo .f64 (FloatKind.f64.nearest ka) 4607182418800017408 = some r ∧ qX [a] = r ∧ qOk [a] = true := by
    intro h
    have e := hN (by omega)
    exact q_good (by rw [ok1]; exact decide_eq_true h) e hS n1 (by omega) (by omega) (by omega) (by omega)
  repeat' first | exact hB (by omega) | exact hG (by omega) | refine br_if (fun _ => ?_) (fun _ => ?_) | refine br_bne (fun _ => ?_) (fun _ => ?_)
theorem r2_con (a b : UInt8) : Con Try.prog 25 [.string (tk.bs [a, b])] [] (.tuple #[.float .f64 (qX [a, b]), .bool (qOk [a, b])]) [] := by
  refine con_vc (E := E0) mixed (calls_envN _) (lok_envN _) (M := noM) lm_none (r2_vc a b _ _) ?_
  have ta := a.toNat_lt
  have tb := b.toNat_lt
  obtain ⟨ka, wa, za, la, ha, ea⟩ := u8w a
  simp only [ofNat_eq, toNat_cast, Nat.zero_add, Nat.add_zero, Nat.mul_one, List.drop_zero, bCells_len, bCells_drop, bCells_take, bCells_app, bCells_one, bCells_plain, List.length_replicate, List.length_append, List.length_take, List.length_drop, List.take_length, and_true, true_and, and_self, decide_true, List.length_nil, List.length_cons, Nat.sub_zero, dB_mk, dB_ro, List.take_zero, y0, y1, wa, za]
  have hN : 48 ≤ a.toNat → qN [a, b] = ka := by
    intro ia
    unfold qN
    rw [ea ia]
  have hS : qS [a, b] = 1 := rfl
  have hB : ¬ ((a.toNat = 48 ∨ a.toNat = 49) ∧ b.toNat = 46 ∧ qN [a, b] ≤ qS [a, b]) → qX [a, b] = 0 ∧ qOk [a, b] = false := fun h => q_bad (by rw [ok2]; exact decide_eq_false h)
  have hG : ((a.toNat = 48 ∨ a.toNat = 49) ∧ b.toNat = 46 ∧ qN [a, b] ≤ qS [a, b]) → ∃ r, fA .quo .f64 (FloatKind.f64.nearest ka) 4607182418800017408 = some r ∧ qX [a, b] = r ∧ qOk [a, b] = true := by
    intro h
    have e := hN (by omega)
    exact q_good (by rw [ok2]; exact decide_eq_true h) e hS n1 (by omega) (by omega) (by omega) (by omega)
  repeat' first | exact hB (by omega) | exact hG (by omega) | refine br_if (fun _ => ?_) (fun _ => ?_) | refine br_bne (fun _ => ?_) (fun _ => ?_)
theorem r3_con (a b c : UInt8) : Con Try.prog 25 [.string (tk.bs [a, b, c])] [] (.tuple #[.float .f64 (qX [a, b, c]), .bool (qOk [a, b, c])]) [] := by
  refine con_vc (E := E0) mixed (calls_envN _) (lok_envN _) (M := noM) lm_none (r3_vc a b c _ _) ?_
  have ta := a.toNat_lt
  have tb := b.toNat_lt
  have tc := c.toNat_lt
  obtain ⟨ka, wa, za, la, ha, ea⟩ := u8w a
  obtain ⟨kc, wc, zc, lc, hc, ec⟩ := u8w c
  simp only [ofNat_eq, toNat_cast, Nat.zero_add, Nat.add_zero, Nat.mul_one, List.drop_zero, bCells_len, bCells_drop, bCells_take, bCells_app, bCells_one, bCells_plain, List.length_replicate, List.length_append, List.length_take, List.length_drop, List.take_length, and_true, true_and, and_self, decide_true, List.length_nil, List.length_cons, Nat.sub_zero, dB_mk, dB_ro, List.take_zero, y0, y1, y2, wa, za, wc, zc]
  have uc : IntKind.i64.wrap (ka * 10) = ka * 10 := wr64_id (by unfold I64; omega)
  have vc : IntKind.i64.wrap (ka * 10 + kc) = ka * 10 + kc := wr64_id (by unfold I64; omega)
  simp only [uc, vc]
  have hN : 48 ≤ a.toNat → 48 ≤ c.toNat → qN [a, b, c] = (ka * 10 + kc) := by
    intro ia ic
    unfold qN
    rw [ea ia, ec ic]
  have hS : qS [a, b, c] = 10 := rfl
  have hB : ¬ ((a.toNat = 48 ∨ a.toNat = 49) ∧ b.toNat = 46 ∧ (48 ≤ c.toNat ∧ c.toNat ≤ 57) ∧ qN [a, b, c] ≤ qS [a, b, c]) → qX [a, b, c] = 0 ∧ qOk [a, b, c] = false := fun h => q_bad (by rw [ok3]; exact decide_eq_false h)
  have hG : ((a.toNat = 48 ∨ a.toNat = 49) ∧ b.toNat = 46 ∧ (48 ≤ c.toNat ∧ c.toNat ≤ 57) ∧ qN [a, b, c] ≤ qS [a, b, c]) → ∃ r, fA .quo .f64 (FloatKind.f64.nearest (ka * 10 + kc)) 4621819117588971520 = some r ∧ qX [a, b, c] = r ∧ qOk [a, b, c] = true := by
    intro h
    have e := hN (by omega) (by omega)
    exact q_good (by rw [ok3]; exact decide_eq_true h) e hS n10 (by omega) (by omega) (by omega) (by omega)
  repeat' first | exact hB (by omega) | exact hG (by omega) | refine br_if (fun _ => ?_) (fun _ => ?_) | refine br_bne (fun _ => ?_) (fun _ => ?_)
theorem r4_con (a b c d : UInt8) : Con Try.prog 25 [.string (tk.bs [a, b, c, d])] [] (.tuple #[.float .f64 (qX [a, b, c, d]), .bool (qOk [a, b, c, d])]) [] := by
  refine con_vc (E := E0) mixed (calls_envN _) (lok_envN _) (M := noM) lm_none (r4_vc a b c d _ _) ?_
  have ta := a.toNat_lt
  have tb := b.toNat_lt
  have tc := c.toNat_lt
  have td := d.toNat_lt
  obtain ⟨ka, wa, za, la, ha, ea⟩ := u8w a
  obtain ⟨kc, wc, zc, lc, hc, ec⟩ := u8w c
  obtain ⟨kd, wd, zd, ld, hd, ed⟩ := u8w d
  simp only [ofNat_eq, toNat_cast, Nat.zero_add, Nat.add_zero, Nat.mul_one, List.drop_zero, bCells_len, bCells_drop, bCells_take, bCells_app, bCells_one, bCells_plain, List.length_replicate, List.length_append, List.length_take, List.length_drop, List.take_length, and_true, true_and, and_self, decide_true, List.length_nil, List.length_cons, Nat.sub_zero, dB_mk, dB_ro, List.take_zero, y0, y1, y2, y3, wa, za, wc, zc, wd, zd]
  have uc : IntKind.i64.wrap (ka * 10) = ka * 10 := wr64_id (by unfold I64; omega)
  have vc : IntKind.i64.wrap (ka * 10 + kc) = ka * 10 + kc := wr64_id (by unfold I64; omega)
  simp only [uc, vc]
  have ud : IntKind.i64.wrap ((ka * 10 + kc) * 10) = (ka * 10 + kc) * 10 := wr64_id (by unfold I64; omega)
  have vd : IntKind.i64.wrap ((ka * 10 + kc) * 10 + kd) = (ka * 10 + kc) * 10 + kd := wr64_id (by unfold I64; omega)
  simp only [ud, vd]
  have hN : 48 ≤ a.toNat → 48 ≤ c.toNat → 48 ≤ d.toNat → qN [a, b, c, d] = ((ka * 10 + kc) * 10 + kd) := by
    intro ia ic id
    unfold qN
    rw [ea ia, ec ic, ed id]
  have hS : qS [a, b, c, d] = 100 := rfl
  have hB : ¬ ((a.toNat = 48 ∨ a.toNat = 49) ∧ b.toNat = 46 ∧ (48 ≤ c.toNat ∧ c.toNat ≤ 57) ∧ (48 ≤ d.toNat ∧ d.toNat ≤ 57) ∧ qN [a, b, c, d] ≤ qS [a, b, c, d]) → qX [a, b, c, d] = 0 ∧ qOk [a, b, c, d] = false := fun h => q_bad (by rw [ok4]; exact decide_eq_false h)
  have hG : ((a.toNat = 48 ∨ a.toNat = 49) ∧ b.toNat = 46 ∧ (48 ≤ c.toNat ∧ c.toNat ≤ 57) ∧ (48 ≤ d.toNat ∧ d.toNat ≤ 57) ∧ qN [a, b, c, d] ≤ qS [a, b, c, d]) → ∃ r, fA .quo .f64 (FloatKind.f64.nearest ((ka * 10 + kc) * 10 + kd)) 4636737291354636288 = some r ∧ qX [a, b, c, d] = r ∧ qOk [a, b, c, d] = true := by
    intro h
    have e := hN (by omega) (by omega) (by omega)
    exact q_good (by rw [ok4]; exact decide_eq_true h) e hS n100 (by omega) (by omega) (by omega) (by omega)
  repeat' first | exact hB (by omega) | exact hG (by omega) | refine br_if (fun _ => ?_) (fun _ => ?_) | refine br_bne (fun _ => ?_) (fun _ => ?_)
theorem r5_con (a b c d e : UInt8) : Con Try.prog 25 [.string (tk.bs [a, b, c, d, e])] [] (.tuple #[.float .f64 (qX [a, b, c, d, e]), .bool (qOk [a, b, c, d, e])]) [] := by
  refine con_vc (E := E0) mixed (calls_envN _) (lok_envN _) (M := noM) lm_none (r5_vc a b c d e _ _) ?_
  have ta := a.toNat_lt
  have tb := b.toNat_lt
  have tc := c.toNat_lt
  have td := d.toNat_lt
  have te := e.toNat_lt
  obtain ⟨ka, wa, za, la, ha, ea⟩ := u8w a
  obtain ⟨kc, wc, zc, lc, hc, ec⟩ := u8w c
  obtain ⟨kd, wd, zd, ld, hd, ed⟩ := u8w d
  obtain ⟨ke, we, ze, le, he, ee⟩ := u8w e
  simp only [ofNat_eq, toNat_cast, Nat.zero_add, Nat.add_zero, Nat.mul_one, List.drop_zero, bCells_len, bCells_drop, bCells_take, bCells_app, bCells_one, bCells_plain, List.length_replicate, List.length_append, List.length_take, List.length_drop, List.take_length, and_true, true_and, and_self, decide_true, List.length_nil, List.length_cons, Nat.sub_zero, dB_mk, dB_ro, List.take_zero, y0, y1, y2, y3, y4, wa, za, wc, zc, wd, zd, we, ze]
  have uc : IntKind.i64.wrap (ka * 10) = ka * 10 := wr64_id (by unfold I64; omega)
  have vc : IntKind.i64.wrap (ka * 10 + kc) = ka * 10 + kc := wr64_id (by unfold I64; omega)
  simp only [uc, vc]
  have ud : IntKind.i64.wrap ((ka * 10 + kc) * 10) = (ka * 10 + kc) * 10 := wr64_id (by unfold I64; omega)
  have vd : IntKind.i64.wrap ((ka * 10 + kc) * 10 + kd) = (ka * 10 + kc) * 10 + kd := wr64_id (by unfold I64; omega)
  simp only [ud, vd]
  have ue : IntKind.i64.wrap (((ka * 10 + kc) * 10 + kd) * 10) = ((ka * 10 + kc) * 10 + kd) * 10 := wr64_id (by unfold I64; omega)
  have ve : IntKind.i64.wrap (((ka * 10 + kc) * 10 + kd) * 10 + ke) = ((ka * 10 + kc) * 10 + kd) * 10 + ke := wr64_id (by unfold I64; omega)
  simp only [ue, ve]
  have hN : 48 ≤ a.toNat → 48 ≤ c.toNat → 48 ≤ d.toNat → 48 ≤ e.toNat → qN [a, b, c, d, e] = (((ka * 10 + kc) * 10 + kd) * 10 + ke) := by
    intro ia ic id ie
    unfold qN
    rw [ea ia, ec ic, ed id, ee ie]
  have hS : qS [a, b, c, d, e] = 1000 := rfl
  have hB : ¬ ((a.toNat = 48 ∨ a.toNat = 49) ∧ b.toNat = 46 ∧ (48 ≤ c.toNat ∧ c.toNat ≤ 57) ∧ (48 ≤ d.toNat ∧ d.toNat ≤ 57) ∧ (48 ≤ e.toNat ∧ e.toNat ≤ 57) ∧ qN [a, b, c, d, e] ≤ qS [a, b, c, d, e]) → qX [a, b, c, d, e] = 0 ∧ qOk [a, b, c, d, e] = false := fun h => q_bad (by rw [ok5]; exact decide_eq_false h)
  have hG : ((a.toNat = 48 ∨ a.toNat = 49) ∧ b.toNat = 46 ∧ (48 ≤ c.toNat ∧ c.toNat ≤ 57) ∧ (48 ≤ d.toNat ∧ d.toNat ≤ 57) ∧ (48 ≤ e.toNat ∧ e.toNat ≤ 57) ∧ qN [a, b, c, d, e] ≤ qS [a, b, c, d, e]) → ∃ r, fA .quo .f64 (FloatKind.f64.nearest (((ka * 10 + kc) * 10 + kd) * 10 + ke)) 4652007308841189376 = some r ∧ qX [a, b, c, d, e] = r ∧ qOk [a, b, c, d, e] = true := by
    intro h
    have e := hN (by omega) (by omega) (by omega) (by omega)
    exact q_good (by rw [ok5]; exact decide_eq_true h) e hS n1000 (by omega) (by omega) (by omega) (by omega)
  repeat' first | exact hB (by omega) | exact hG (by omega) | refine br_if (fun _ => ?_) (fun _ => ?_) | refine br_bne (fun _ => ?_) (fun _ => ?_)
theorem rL_con (s : ByteArray) (h : 5 < s.data.toList.length) (hm : s.data.toList.length ≤ maxLen) : Con Try.prog 25 [.string s] [] (.tuple #[.float .f64 0, .bool false]) [] := by
  have hm : maxLen = 9223372036854775807 := by unfold maxLen; rfl
  refine con_vc (E := E0) mixed (calls_envN _) (lok_envN _) (M := mCr) (lm_one (fun _ _ _ _ _ _ _ _ _ _ h => h.elim)) (rL_vc s _ _) ?_
  simp only [ofNat_eq, toNat_cast, Nat.zero_add, Nat.add_zero, Nat.mul_one, List.drop_zero, bCells_len, bCells_drop, bCells_take, bCells_app, bCells_one, bCells_plain, List.length_replicate, List.length_append, List.length_take, List.length_drop, List.take_length, and_true, true_and, and_self, decide_true, List.length_nil, List.length_cons, Nat.sub_zero, dB_mk, dB_ro, List.take_zero]
  repeat' first | exact trivial | refine br_dec (by omega) ?_ | refine br_intro (fun _ => ?_) (fun _ => ?_)
theorem r_con (s : ByteArray) (hm : s.data.toList.length ≤ maxLen) : Con Try.prog 25 [.string s] [] (.tuple #[.float .f64 (qxS s), .bool (qoS s)]) [] := by
  rw [qxS_eq, qoS_eq]
  obtain ⟨l, rfl⟩ : ∃ l, s = tk.bs l := ⟨s.data.toList, rfl⟩
  have e : (tk.bs l).data.toList = l := rfl
  rw [e] at hm ⊢
  match l with
  | [] => exact r0_con
  | [a] => exact r1_con a
  | [a, b] => exact r2_con a b
  | [a, b, c] => exact r3_con a b c
  | [a, b, c, d] => exact r4_con a b c d
  | [a, b, c, d, e] => exact r5_con a b c d e
  | a :: b :: c :: d :: e :: f :: t =>
    have hq : qOk (a :: b :: c :: d :: e :: f :: t) = false := by
      have h5 : decide ((a :: b :: c :: d :: e :: f :: t).length ≤ 5) = false := decide_eq_false (by simp only [List.length_cons]; omega)
      unfold qOk
      rw [h5]; simp
    rw [(q_bad hq).1, hq]
    exact rL_con _ (by show 5 < (a :: b :: c :: d :: e :: f :: t).length; simp only [List.length_cons]; omega) hm
end Go.Proofs.Ytgnpilaadggegaa.fl
