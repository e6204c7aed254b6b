/- The laws of dates: back, one byte turned, a second and a week later, in their order. -/
import Derived.Test.YtnimempjpkidhaaSz9
import Derived.Test.YtnimempjpkidhaaRows
import Derived.Test.YtnimempjpkidhaaLdayrs
import Derived.Test.YtnimempjpkidhaaLwit
set_option linter.unusedSimpArgs false
set_option linter.unusedVariables false
namespace Go.Proofs.Ytnimempjpkidhaa.tk
open Go Go.Ev Go.Sy Go.RowKit Go.Proofs.Ytnimempjpkidhaa.gl
def cDy : FuncId → List Value → List Row → Option (Prop × Value × List Row)
  | 9, [.string s], [] => some ((L s).length ≤ maxLen, .tuple #[.int .i64 (rdI s), .bool (rdB s)], [])
  | 10, [.int .i64 n], [] => some (True, .string (shS n), [])
  | 13, [.int .i64 n, .int .i64 lo, .int .i64 hi], [] => some (I64 n ∧ -1000000000000 ≤ lo ∧ lo ≤ hi ∧ hi ≤ 1000000000000, .int .i64 (inside n lo hi), [])
  | 3, [], [] => some (True, .bool true, [])
  | _, _, _ => none
def kDy (f : FuncId) : Bool := Nat.beq f 9 || Nat.beq f 10 || Nat.beq f 13 || Nat.beq f 3
noncomputable abbrev EDy : Env := envC Try.prog cDy kDy
theorem db_vc (n : Int) (s : List UInt8) : mcall EDy noM 60 5 [.int .i64 n, .string (bs s)] ⟨mkR (nums 0 []), 0⟩ (retIs 0 (.bool true) []) =
  (br (decide (Int.ofNat (List.length (Array.toList (ByteArray.data (bs s)))) > (200 : Int)))
   (br (decide ((0 : Int) ≤ (↑(0 : Nat) : Int) ∧ (↑(0 : Nat) : Int) ≤ (200 : Int) ∧ (200 : Int) ≤ (↑(List.length (Array.toList (ByteArray.data (bs s)))) : Int)))
    ((((True ∧ (True ∧ (True ∧ True))) ∧ (True ∧ (I64 n ∧ ((-1000000000000 : Int) ≤ (0 : Int) ∧ ((0 : Int) ≤ (2145916799 : Int) ∧ (2145916799 : Int) ≤ (1000000000000 : Int))))))) ∧
    ((((True ∧ True) ∧ (True ∧ True))) ∧
    ((((True ∧ True) ∧ (True ∧ List.length (L (shS (inside n (0 : Int) (2145916799 : Int)))) ≤ (9223372036854775807 : Nat)))) ∧
    ((((True ∧ True) ∧ (True ∧ List.length (L (sub (bs s) (0 : Nat) (200 : Nat))) ≤ (9223372036854775807 : Nat)))) ∧
    (br (rdI (shS (inside n (0 : Int) (2145916799 : Int))) == inside n (0 : Int) (2145916799 : Int))
     (br (rdB (shS (inside n (0 : Int) (2145916799 : Int))))
      (br (!rdB (sub (bs s) (0 : Nat) (200 : Nat)))
       (((True ∧ (True ∧ True))) ∧
       ((true = true) ∧
       True))
       ((((True ∧ True) ∧ (True ∧ True))) ∧
       (br (strEq (shS (rdI (sub (bs s) (0 : Nat) (200 : Nat)))) (sub (bs s) (0 : Nat) (200 : Nat)))
        (((True ∧ (True ∧ True))) ∧
        ((true = true) ∧
        True))
        ((true = false) ∧
        True))))
      ((true = false) ∧
      True))
     ((true = false) ∧
     True))))))
    False)
   ((((True ∧ (True ∧ (True ∧ True))) ∧ (True ∧ (I64 n ∧ ((-1000000000000 : Int) ≤ (0 : Int) ∧ ((0 : Int) ≤ (2145916799 : Int) ∧ (2145916799 : Int) ≤ (1000000000000 : Int))))))) ∧
   ((((True ∧ True) ∧ (True ∧ True))) ∧
   ((((True ∧ True) ∧ (True ∧ List.length (L (shS (inside n (0 : Int) (2145916799 : Int)))) ≤ (9223372036854775807 : Nat)))) ∧
   ((((True ∧ True) ∧ (True ∧ List.length (L (bs s)) ≤ (9223372036854775807 : Nat)))) ∧
   (br (rdI (shS (inside n (0 : Int) (2145916799 : Int))) == inside n (0 : Int) (2145916799 : Int))
    (br (rdB (shS (inside n (0 : Int) (2145916799 : Int))))
     (br (!rdB (bs s))
      (((True ∧ (True ∧ True))) ∧
      ((true = true) ∧
      True))
      ((((True ∧ True) ∧ (True ∧ True))) ∧
      (br (strEq (shS (rdI (bs s))) (bs s))
       (((True ∧ (True ∧ True))) ∧
       ((true = true) ∧
       True))
       ((true = false) ∧
       True))))
     ((true = false) ∧
     True))
    ((true = false) ∧
    True))))))) := by kernel_rfl
theorem dt_vc (n at_ : Int) (c : UInt8) : mcall EDy noM 60 6 [.int .i64 n, .int .i64 at_, bVal c] ⟨mkR (nums 0 []), 0⟩ (retIs 0 (.bool true) []) =
  ((((True ∧ (True ∧ (True ∧ True))) ∧ (True ∧ (I64 n ∧ ((-1000000000000 : Int) ≤ (0 : Int) ∧ ((0 : Int) ≤ (2145916799 : Int) ∧ (2145916799 : Int) ≤ (1000000000000 : Int))))))) ∧
  ((((True ∧ True) ∧ (True ∧ True))) ∧
  (br (Int.ofNat (List.length (Array.toList (ByteArray.data (shS (inside n (0 : Int) (2145916799 : Int)))))) != (29 : Int))
   ((true = false) ∧
   True)
   ((((True ∧ (True ∧ (True ∧ True))) ∧ (True ∧ (I64 at_ ∧ ((-1000000000000 : Int) ≤ (0 : Int) ∧ ((0 : Int) ≤ (28 : Int) ∧ (28 : Int) ≤ (1000000000000 : Int))))))) ∧
   (br (decide ((0 : Int) ≤ (↑(0 : Nat) : Int) ∧ (0 : Int) ≤ inside at_ (0 : Int) (28 : Int) ∧ inside at_ (0 : Int) (28 : Int) ≤ (↑(List.length (Array.toList (ByteArray.data (shS (inside n (0 : Int) (2145916799 : Int)))))) : Int)))
    (br (decide (List.length (Array.toList (ByteArray.data (sub (shS (inside n (0 : Int) (2145916799 : Int))) (0 : Nat) (Int.toNat (inside at_ (0 : Int) (28 : Int)))))) + (1 : Nat) ≤ (9223372036854775807 : Nat)))
     (br (decide ((0 : Int) ≤ IntKind.wrap IntKind.i64 (inside at_ (0 : Int) (28 : Int) + (1 : Int)) ∧ IntKind.wrap IntKind.i64 (inside at_ (0 : Int) (28 : Int) + (1 : Int)) ≤ (↑(List.length (Array.toList (ByteArray.data (shS (inside n (0 : Int) (2145916799 : Int)))))) : Int) ∧ (↑(List.length (Array.toList (ByteArray.data (shS (inside n (0 : Int) (2145916799 : Int)))))) : Int) ≤ (↑(List.length (Array.toList (ByteArray.data (shS (inside n (0 : Int) (2145916799 : Int)))))) : Int)))
      (br (decide (List.length (Array.toList (ByteArray.data (sub (shS (inside n (0 : Int) (2145916799 : Int))) (0 : Nat) (Int.toNat (inside at_ (0 : Int) (28 : Int))))) ++ [UInt8.ofNat (Int.toNat (↑(UInt8.toNat c) : Int))]) + List.length (Array.toList (ByteArray.data (sub (shS (inside n (0 : Int) (2145916799 : Int))) (Int.toNat (IntKind.wrap IntKind.i64 (inside at_ (0 : Int) (28 : Int) + (1 : Int)))) (Int.toNat (↑(List.length (Array.toList (ByteArray.data (shS (inside n (0 : Int) (2145916799 : Int)))))) : Int))))) ≤ (9223372036854775807 : Nat)))
       (br (decide ((0 : Int) ≤ (↑(0 : Nat) : Int) ∧ (0 : Int) ≤ inside at_ (0 : Int) (28 : Int) ∧ inside at_ (0 : Int) (28 : Int) ≤ (↑(List.length (Array.toList (ByteArray.data (shS (inside n (0 : Int) (2145916799 : Int)))))) : Int)))
        ((Value.string (sub (shS (inside n (0 : Int) (2145916799 : Int))) (0 : Nat) (Int.toNat (inside at_ (0 : Int) (28 : Int)))) = Value.string (sub (shS (inside n (0 : Int) (2145916799 : Int))) (0 : Nat) (Int.toNat (inside at_ (0 : Int) (28 : Int))))) ∧
        ((Value.string (ByteArray.mk #[UInt8.ofNat (Int.toNat (↑(UInt8.toNat c) : Int))]) = Value.string (ByteArray.mk #[UInt8.ofNat (Int.toNat (↑(UInt8.toNat c) : Int))])) ∧
        (br (decide ((0 : Int) ≤ IntKind.wrap IntKind.i64 (inside at_ (0 : Int) (28 : Int) + (1 : Int)) ∧ IntKind.wrap IntKind.i64 (inside at_ (0 : Int) (28 : Int) + (1 : Int)) ≤ (↑(List.length (Array.toList (ByteArray.data (shS (inside n (0 : Int) (2145916799 : Int)))))) : Int) ∧ (↑(List.length (Array.toList (ByteArray.data (shS (inside n (0 : Int) (2145916799 : Int)))))) : Int) ≤ (↑(List.length (Array.toList (ByteArray.data (shS (inside n (0 : Int) (2145916799 : Int)))))) : Int)))
         ((Value.string (sub (shS (inside n (0 : Int) (2145916799 : Int))) (Int.toNat (IntKind.wrap IntKind.i64 (inside at_ (0 : Int) (28 : Int) + (1 : Int)))) (Int.toNat (↑(List.length (Array.toList (ByteArray.data (shS (inside n (0 : Int) (2145916799 : Int)))))) : Int))) = Value.string (sub (shS (inside n (0 : Int) (2145916799 : Int))) (Int.toNat (IntKind.wrap IntKind.i64 (inside at_ (0 : Int) (28 : Int) + (1 : Int)))) (Int.toNat (↑(List.length (Array.toList (ByteArray.data (shS (inside n (0 : Int) (2145916799 : Int)))))) : Int)))) ∧
         ((((True ∧ True) ∧ (True ∧ List.length (L (sub (shS (inside n (0 : Int) (2145916799 : Int))) (0 : Nat) (Int.toNat (inside at_ (0 : Int) (28 : Int))) ++ ByteArray.mk #[UInt8.ofNat (Int.toNat (↑(UInt8.toNat c) : Int))] ++ sub (shS (inside n (0 : Int) (2145916799 : Int))) (Int.toNat (IntKind.wrap IntKind.i64 (inside at_ (0 : Int) (28 : Int) + (1 : Int)))) (Int.toNat (↑(List.length (Array.toList (ByteArray.data (shS (inside n (0 : Int) (2145916799 : Int)))))) : Int)))) ≤ (9223372036854775807 : Nat)))) ∧
         (br (rdB (sub (shS (inside n (0 : Int) (2145916799 : Int))) (0 : Nat) (Int.toNat (inside at_ (0 : Int) (28 : Int))) ++ ByteArray.mk #[UInt8.ofNat (Int.toNat (↑(UInt8.toNat c) : Int))] ++ sub (shS (inside n (0 : Int) (2145916799 : Int))) (Int.toNat (IntKind.wrap IntKind.i64 (inside at_ (0 : Int) (28 : Int) + (1 : Int)))) (Int.toNat (↑(List.length (Array.toList (ByteArray.data (shS (inside n (0 : Int) (2145916799 : Int)))))) : Int))))
          (br (strEq (shS (inside n (0 : Int) (2145916799 : Int))) (sub (shS (inside n (0 : Int) (2145916799 : Int))) (0 : Nat) (Int.toNat (inside at_ (0 : Int) (28 : Int))) ++ ByteArray.mk #[UInt8.ofNat (Int.toNat (↑(UInt8.toNat c) : Int))] ++ sub (shS (inside n (0 : Int) (2145916799 : Int))) (Int.toNat (IntKind.wrap IntKind.i64 (inside at_ (0 : Int) (28 : Int) + (1 : Int)))) (Int.toNat (↑(List.length (Array.toList (ByteArray.data (shS (inside n (0 : Int) (2145916799 : Int)))))) : Int))) == (rdI (sub (shS (inside n (0 : Int) (2145916799 : Int))) (0 : Nat) (Int.toNat (inside at_ (0 : Int) (28 : Int))) ++ ByteArray.mk #[UInt8.ofNat (Int.toNat (↑(UInt8.toNat c) : Int))] ++ sub (shS (inside n (0 : Int) (2145916799 : Int))) (Int.toNat (IntKind.wrap IntKind.i64 (inside at_ (0 : Int) (28 : Int) + (1 : Int)))) (Int.toNat (↑(List.length (Array.toList (ByteArray.data (shS (inside n (0 : Int) (2145916799 : Int)))))) : Int))) == inside n (0 : Int) (2145916799 : Int)))
           (((True ∧ (True ∧ True))) ∧
           ((true = true) ∧
           True))
           ((true = false) ∧
           True))
          (br (strEq (shS (inside n (0 : Int) (2145916799 : Int))) (sub (shS (inside n (0 : Int) (2145916799 : Int))) (0 : Nat) (Int.toNat (inside at_ (0 : Int) (28 : Int))) ++ ByteArray.mk #[UInt8.ofNat (Int.toNat (↑(UInt8.toNat c) : Int))] ++ sub (shS (inside n (0 : Int) (2145916799 : Int))) (Int.toNat (IntKind.wrap IntKind.i64 (inside at_ (0 : Int) (28 : Int) + (1 : Int)))) (Int.toNat (↑(List.length (Array.toList (ByteArray.data (shS (inside n (0 : Int) (2145916799 : Int)))))) : Int))) == false)
           (((True ∧ (True ∧ True))) ∧
           ((true = true) ∧
           True))
           ((true = false) ∧
           True)))))
         False)))
        False)
       False)
      False)
     False)
    False))))) := by kernel_rfl
theorem dn_vc (n : Int) : mcall EDy noM 60 7 [.int .i64 n] ⟨mkR (nums 0 []), 0⟩ (retIs 0 (.bool true) []) =
  ((((True ∧ (True ∧ (True ∧ True))) ∧ (True ∧ (I64 n ∧ ((-1000000000000 : Int) ≤ (0 : Int) ∧ ((0 : Int) ≤ (2145216799 : Int) ∧ (2145216799 : Int) ≤ (1000000000000 : Int))))))) ∧
  ((((True ∧ True) ∧ (True ∧ True))) ∧
  ((((True ∧ True) ∧ (True ∧ True))) ∧
  ((((True ∧ True) ∧ (True ∧ True))) ∧
  (br (Int.ofNat (List.length (Array.toList (ByteArray.data (shS (inside n (0 : Int) (2145216799 : Int)))))) != (29 : Int))
   ((true = false) ∧
   True)
   (br (Int.ofNat (List.length (Array.toList (ByteArray.data (shS (IntKind.wrap IntKind.i64 (inside n (0 : Int) (2145216799 : Int) + (1 : Int))))))) != (29 : Int))
    ((true = false) ∧
    True)
    (br (Int.ofNat (List.length (Array.toList (ByteArray.data (shS (IntKind.wrap IntKind.i64 (inside n (0 : Int) (2145216799 : Int) + (604800 : Int))))))) != (29 : Int))
     ((true = false) ∧
     True)
     (br (Int.tmod (inside n (0 : Int) (2145216799 : Int)) (60 : Int) == (59 : Int))
      (br (!strEq (shS (inside n (0 : Int) (2145216799 : Int))) (shS (IntKind.wrap IntKind.i64 (inside n (0 : Int) (2145216799 : Int) + (1 : Int)))))
       (br (decide ((0 : Int) ≤ (↑(0 : Nat) : Int) ∧ (↑(0 : Nat) : Int) ≤ (3 : Int) ∧ (3 : Int) ≤ (↑(List.length (Array.toList (ByteArray.data (shS (inside n (0 : Int) (2145216799 : Int)))))) : Int)))
        (br (decide ((0 : Int) ≤ (↑(0 : Nat) : Int) ∧ (↑(0 : Nat) : Int) ≤ (3 : Int) ∧ (3 : Int) ≤ (↑(List.length (Array.toList (ByteArray.data (shS (IntKind.wrap IntKind.i64 (inside n (0 : Int) (2145216799 : Int) + (604800 : Int))))))) : Int)))
         (br (strEq (sub (shS (inside n (0 : Int) (2145216799 : Int))) (0 : Nat) (3 : Nat)) (sub (shS (IntKind.wrap IntKind.i64 (inside n (0 : Int) (2145216799 : Int) + (604800 : Int)))) (0 : Nat) (3 : Nat)))
          (br (decide ((0 : Int) ≤ (17 : Int) ∧ (17 : Int) ≤ (↑(List.length (Array.toList (ByteArray.data (shS (inside n (0 : Int) (2145216799 : Int)))))) : Int) ∧ (↑(List.length (Array.toList (ByteArray.data (shS (inside n (0 : Int) (2145216799 : Int)))))) : Int) ≤ (↑(List.length (Array.toList (ByteArray.data (shS (inside n (0 : Int) (2145216799 : Int)))))) : Int)))
           (br (decide ((0 : Int) ≤ (17 : Int) ∧ (17 : Int) ≤ (↑(List.length (Array.toList (ByteArray.data (shS (IntKind.wrap IntKind.i64 (inside n (0 : Int) (2145216799 : Int) + (604800 : Int))))))) : Int) ∧ (↑(List.length (Array.toList (ByteArray.data (shS (IntKind.wrap IntKind.i64 (inside n (0 : Int) (2145216799 : Int) + (604800 : Int))))))) : Int) ≤ (↑(List.length (Array.toList (ByteArray.data (shS (IntKind.wrap IntKind.i64 (inside n (0 : Int) (2145216799 : Int) + (604800 : Int))))))) : Int)))
            (br (strEq (sub (shS (inside n (0 : Int) (2145216799 : Int))) (17 : Nat) (Int.toNat (↑(List.length (Array.toList (ByteArray.data (shS (inside n (0 : Int) (2145216799 : Int)))))) : Int))) (sub (shS (IntKind.wrap IntKind.i64 (inside n (0 : Int) (2145216799 : Int) + (604800 : Int)))) (17 : Nat) (Int.toNat (↑(List.length (Array.toList (ByteArray.data (shS (IntKind.wrap IntKind.i64 (inside n (0 : Int) (2145216799 : Int) + (604800 : Int))))))) : Int))))
             (((True ∧ (True ∧ True))) ∧
             (br (decide ((0 : Int) ≤ (↑(0 : Nat) : Int) ∧ (↑(0 : Nat) : Int) ≤ (3 : Int) ∧ (3 : Int) ≤ (↑(List.length (Array.toList (ByteArray.data (shS (inside n (0 : Int) (2145216799 : Int)))))) : Int)))
              ((Value.string (sub (shS (inside n (0 : Int) (2145216799 : Int))) (0 : Nat) (3 : Nat)) = Value.string (sub (shS (inside n (0 : Int) (2145216799 : Int))) (0 : Nat) (3 : Nat))) ∧
              (br (decide ((0 : Int) ≤ (↑(0 : Nat) : Int) ∧ (↑(0 : Nat) : Int) ≤ (3 : Int) ∧ (3 : Int) ≤ (↑(List.length (Array.toList (ByteArray.data (shS (IntKind.wrap IntKind.i64 (inside n (0 : Int) (2145216799 : Int) + (604800 : Int))))))) : Int)))
               ((Value.string (sub (shS (IntKind.wrap IntKind.i64 (inside n (0 : Int) (2145216799 : Int) + (604800 : Int)))) (0 : Nat) (3 : Nat)) = Value.string (sub (shS (IntKind.wrap IntKind.i64 (inside n (0 : Int) (2145216799 : Int) + (604800 : Int)))) (0 : Nat) (3 : Nat))) ∧
               (br (decide ((0 : Int) ≤ (17 : Int) ∧ (17 : Int) ≤ (↑(List.length (Array.toList (ByteArray.data (shS (inside n (0 : Int) (2145216799 : Int)))))) : Int) ∧ (↑(List.length (Array.toList (ByteArray.data (shS (inside n (0 : Int) (2145216799 : Int)))))) : Int) ≤ (↑(List.length (Array.toList (ByteArray.data (shS (inside n (0 : Int) (2145216799 : Int)))))) : Int)))
                ((Value.string (sub (shS (inside n (0 : Int) (2145216799 : Int))) (17 : Nat) (Int.toNat (↑(List.length (Array.toList (ByteArray.data (shS (inside n (0 : Int) (2145216799 : Int)))))) : Int))) = Value.string (sub (shS (inside n (0 : Int) (2145216799 : Int))) (17 : Nat) (Int.toNat (↑(List.length (Array.toList (ByteArray.data (shS (inside n (0 : Int) (2145216799 : Int)))))) : Int)))) ∧
                (br (decide ((0 : Int) ≤ (17 : Int) ∧ (17 : Int) ≤ (↑(List.length (Array.toList (ByteArray.data (shS (IntKind.wrap IntKind.i64 (inside n (0 : Int) (2145216799 : Int) + (604800 : Int))))))) : Int) ∧ (↑(List.length (Array.toList (ByteArray.data (shS (IntKind.wrap IntKind.i64 (inside n (0 : Int) (2145216799 : Int) + (604800 : Int))))))) : Int) ≤ (↑(List.length (Array.toList (ByteArray.data (shS (IntKind.wrap IntKind.i64 (inside n (0 : Int) (2145216799 : Int) + (604800 : Int))))))) : Int)))
                 ((Value.string (sub (shS (IntKind.wrap IntKind.i64 (inside n (0 : Int) (2145216799 : Int) + (604800 : Int)))) (17 : Nat) (Int.toNat (↑(List.length (Array.toList (ByteArray.data (shS (IntKind.wrap IntKind.i64 (inside n (0 : Int) (2145216799 : Int) + (604800 : Int))))))) : Int))) = Value.string (sub (shS (IntKind.wrap IntKind.i64 (inside n (0 : Int) (2145216799 : Int) + (604800 : Int)))) (17 : Nat) (Int.toNat (↑(List.length (Array.toList (ByteArray.data (shS (IntKind.wrap IntKind.i64 (inside n (0 : Int) (2145216799 : Int) + (604800 : Int))))))) : Int)))) ∧
                 ((true = true) ∧
                 True))
                 False))
                False))
               False))
              False))
             (br (decide ((0 : Int) ≤ (↑(0 : Nat) : Int) ∧ (↑(0 : Nat) : Int) ≤ (3 : Int) ∧ (3 : Int) ≤ (↑(List.length (Array.toList (ByteArray.data (shS (inside n (0 : Int) (2145216799 : Int)))))) : Int)))
              ((Value.string (sub (shS (inside n (0 : Int) (2145216799 : Int))) (0 : Nat) (3 : Nat)) = Value.string (sub (shS (inside n (0 : Int) (2145216799 : Int))) (0 : Nat) (3 : Nat))) ∧
              (br (decide ((0 : Int) ≤ (↑(0 : Nat) : Int) ∧ (↑(0 : Nat) : Int) ≤ (3 : Int) ∧ (3 : Int) ≤ (↑(List.length (Array.toList (ByteArray.data (shS (IntKind.wrap IntKind.i64 (inside n (0 : Int) (2145216799 : Int) + (604800 : Int))))))) : Int)))
               ((Value.string (sub (shS (IntKind.wrap IntKind.i64 (inside n (0 : Int) (2145216799 : Int) + (604800 : Int)))) (0 : Nat) (3 : Nat)) = Value.string (sub (shS (IntKind.wrap IntKind.i64 (inside n (0 : Int) (2145216799 : Int) + (604800 : Int)))) (0 : Nat) (3 : Nat))) ∧
               (br (decide ((0 : Int) ≤ (17 : Int) ∧ (17 : Int) ≤ (↑(List.length (Array.toList (ByteArray.data (shS (inside n (0 : Int) (2145216799 : Int)))))) : Int) ∧ (↑(List.length (Array.toList (ByteArray.data (shS (inside n (0 : Int) (2145216799 : Int)))))) : Int) ≤ (↑(List.length (Array.toList (ByteArray.data (shS (inside n (0 : Int) (2145216799 : Int)))))) : Int)))
                ((Value.string (sub (shS (inside n (0 : Int) (2145216799 : Int))) (17 : Nat) (Int.toNat (↑(List.length (Array.toList (ByteArray.data (shS (inside n (0 : Int) (2145216799 : Int)))))) : Int))) = Value.string (sub (shS (inside n (0 : Int) (2145216799 : Int))) (17 : Nat) (Int.toNat (↑(List.length (Array.toList (ByteArray.data (shS (inside n (0 : Int) (2145216799 : Int)))))) : Int)))) ∧
                (br (decide ((0 : Int) ≤ (17 : Int) ∧ (17 : Int) ≤ (↑(List.length (Array.toList (ByteArray.data (shS (IntKind.wrap IntKind.i64 (inside n (0 : Int) (2145216799 : Int) + (604800 : Int))))))) : Int) ∧ (↑(List.length (Array.toList (ByteArray.data (shS (IntKind.wrap IntKind.i64 (inside n (0 : Int) (2145216799 : Int) + (604800 : Int))))))) : Int) ≤ (↑(List.length (Array.toList (ByteArray.data (shS (IntKind.wrap IntKind.i64 (inside n (0 : Int) (2145216799 : Int) + (604800 : Int))))))) : Int)))
                 ((Value.string (sub (shS (IntKind.wrap IntKind.i64 (inside n (0 : Int) (2145216799 : Int) + (604800 : Int)))) (17 : Nat) (Int.toNat (↑(List.length (Array.toList (ByteArray.data (shS (IntKind.wrap IntKind.i64 (inside n (0 : Int) (2145216799 : Int) + (604800 : Int))))))) : Int))) = Value.string (sub (shS (IntKind.wrap IntKind.i64 (inside n (0 : Int) (2145216799 : Int) + (604800 : Int)))) (17 : Nat) (Int.toNat (↑(List.length (Array.toList (ByteArray.data (shS (IntKind.wrap IntKind.i64 (inside n (0 : Int) (2145216799 : Int) + (604800 : Int))))))) : Int)))) ∧
                 ((true = false) ∧
                 True))
                 False))
                False))
               False))
              False))
            False)
           False)
          (br (decide ((0 : Int) ≤ (↑(0 : Nat) : Int) ∧ (↑(0 : Nat) : Int) ≤ (3 : Int) ∧ (3 : Int) ≤ (↑(List.length (Array.toList (ByteArray.data (shS (inside n (0 : Int) (2145216799 : Int)))))) : Int)))
           ((Value.string (sub (shS (inside n (0 : Int) (2145216799 : Int))) (0 : Nat) (3 : Nat)) = Value.string (sub (shS (inside n (0 : Int) (2145216799 : Int))) (0 : Nat) (3 : Nat))) ∧
           (br (decide ((0 : Int) ≤ (↑(0 : Nat) : Int) ∧ (↑(0 : Nat) : Int) ≤ (3 : Int) ∧ (3 : Int) ≤ (↑(List.length (Array.toList (ByteArray.data (shS (IntKind.wrap IntKind.i64 (inside n (0 : Int) (2145216799 : Int) + (604800 : Int))))))) : Int)))
            ((Value.string (sub (shS (IntKind.wrap IntKind.i64 (inside n (0 : Int) (2145216799 : Int) + (604800 : Int)))) (0 : Nat) (3 : Nat)) = Value.string (sub (shS (IntKind.wrap IntKind.i64 (inside n (0 : Int) (2145216799 : Int) + (604800 : Int)))) (0 : Nat) (3 : Nat))) ∧
            ((true = false) ∧
            True))
            False))
           False))
         False)
        False)
       ((true = false) ∧
       True))
      (br (decide ((0 : Int) ≤ (↑(0 : Nat) : Int) ∧ (↑(0 : Nat) : Int) ≤ (22 : Int) ∧ (22 : Int) ≤ (↑(List.length (Array.toList (ByteArray.data (shS (inside n (0 : Int) (2145216799 : Int)))))) : Int)))
       (br (decide ((0 : Int) ≤ (↑(0 : Nat) : Int) ∧ (↑(0 : Nat) : Int) ≤ (22 : Int) ∧ (22 : Int) ≤ (↑(List.length (Array.toList (ByteArray.data (shS (IntKind.wrap IntKind.i64 (inside n (0 : Int) (2145216799 : Int) + (1 : Int))))))) : Int)))
        (br (strEq (sub (shS (inside n (0 : Int) (2145216799 : Int))) (0 : Nat) (22 : Nat)) (sub (shS (IntKind.wrap IntKind.i64 (inside n (0 : Int) (2145216799 : Int) + (1 : Int)))) (0 : Nat) (22 : Nat)))
         (br (!strEq (shS (inside n (0 : Int) (2145216799 : Int))) (shS (IntKind.wrap IntKind.i64 (inside n (0 : Int) (2145216799 : Int) + (1 : Int)))))
          (br (decide ((0 : Int) ≤ (↑(0 : Nat) : Int) ∧ (↑(0 : Nat) : Int) ≤ (3 : Int) ∧ (3 : Int) ≤ (↑(List.length (Array.toList (ByteArray.data (shS (inside n (0 : Int) (2145216799 : Int)))))) : Int)))
           (br (decide ((0 : Int) ≤ (↑(0 : Nat) : Int) ∧ (↑(0 : Nat) : Int) ≤ (3 : Int) ∧ (3 : Int) ≤ (↑(List.length (Array.toList (ByteArray.data (shS (IntKind.wrap IntKind.i64 (inside n (0 : Int) (2145216799 : Int) + (604800 : Int))))))) : Int)))
            (br (strEq (sub (shS (inside n (0 : Int) (2145216799 : Int))) (0 : Nat) (3 : Nat)) (sub (shS (IntKind.wrap IntKind.i64 (inside n (0 : Int) (2145216799 : Int) + (604800 : Int)))) (0 : Nat) (3 : Nat)))
             (br (decide ((0 : Int) ≤ (17 : Int) ∧ (17 : Int) ≤ (↑(List.length (Array.toList (ByteArray.data (shS (inside n (0 : Int) (2145216799 : Int)))))) : Int) ∧ (↑(List.length (Array.toList (ByteArray.data (shS (inside n (0 : Int) (2145216799 : Int)))))) : Int) ≤ (↑(List.length (Array.toList (ByteArray.data (shS (inside n (0 : Int) (2145216799 : Int)))))) : Int)))
              (br (decide ((0 : Int) ≤ (17 : Int) ∧ (17 : Int) ≤ (↑(List.length (Array.toList (ByteArray.data (shS (IntKind.wrap IntKind.i64 (inside n (0 : Int) (2145216799 : Int) + (604800 : Int))))))) : Int) ∧ (↑(List.length (Array.toList (ByteArray.data (shS (IntKind.wrap IntKind.i64 (inside n (0 : Int) (2145216799 : Int) + (604800 : Int))))))) : Int) ≤ (↑(List.length (Array.toList (ByteArray.data (shS (IntKind.wrap IntKind.i64 (inside n (0 : Int) (2145216799 : Int) + (604800 : Int))))))) : Int)))
               (br (strEq (sub (shS (inside n (0 : Int) (2145216799 : Int))) (17 : Nat) (Int.toNat (↑(List.length (Array.toList (ByteArray.data (shS (inside n (0 : Int) (2145216799 : Int)))))) : Int))) (sub (shS (IntKind.wrap IntKind.i64 (inside n (0 : Int) (2145216799 : Int) + (604800 : Int)))) (17 : Nat) (Int.toNat (↑(List.length (Array.toList (ByteArray.data (shS (IntKind.wrap IntKind.i64 (inside n (0 : Int) (2145216799 : Int) + (604800 : Int))))))) : Int))))
                (((True ∧ (True ∧ True))) ∧
                (br (decide ((0 : Int) ≤ (↑(0 : Nat) : Int) ∧ (↑(0 : Nat) : Int) ≤ (22 : Int) ∧ (22 : Int) ≤ (↑(List.length (Array.toList (ByteArray.data (shS (inside n (0 : Int) (2145216799 : Int)))))) : Int)))
                 ((Value.string (sub (shS (inside n (0 : Int) (2145216799 : Int))) (0 : Nat) (22 : Nat)) = Value.string (sub (shS (inside n (0 : Int) (2145216799 : Int))) (0 : Nat) (22 : Nat))) ∧
                 (br (decide ((0 : Int) ≤ (↑(0 : Nat) : Int) ∧ (↑(0 : Nat) : Int) ≤ (22 : Int) ∧ (22 : Int) ≤ (↑(List.length (Array.toList (ByteArray.data (shS (IntKind.wrap IntKind.i64 (inside n (0 : Int) (2145216799 : Int) + (1 : Int))))))) : Int)))
                  ((Value.string (sub (shS (IntKind.wrap IntKind.i64 (inside n (0 : Int) (2145216799 : Int) + (1 : Int)))) (0 : Nat) (22 : Nat)) = Value.string (sub (shS (IntKind.wrap IntKind.i64 (inside n (0 : Int) (2145216799 : Int) + (1 : Int)))) (0 : Nat) (22 : Nat))) ∧
                  (br (decide ((0 : Int) ≤ (↑(0 : Nat) : Int) ∧ (↑(0 : Nat) : Int) ≤ (3 : Int) ∧ (3 : Int) ≤ (↑(List.length (Array.toList (ByteArray.data (shS (inside n (0 : Int) (2145216799 : Int)))))) : Int)))
                   ((Value.string (sub (shS (inside n (0 : Int) (2145216799 : Int))) (0 : Nat) (3 : Nat)) = Value.string (sub (shS (inside n (0 : Int) (2145216799 : Int))) (0 : Nat) (3 : Nat))) ∧
                   (br (decide ((0 : Int) ≤ (↑(0 : Nat) : Int) ∧ (↑(0 : Nat) : Int) ≤ (3 : Int) ∧ (3 : Int) ≤ (↑(List.length (Array.toList (ByteArray.data (shS (IntKind.wrap IntKind.i64 (inside n (0 : Int) (2145216799 : Int) + (604800 : Int))))))) : Int)))
                    ((Value.string (sub (shS (IntKind.wrap IntKind.i64 (inside n (0 : Int) (2145216799 : Int) + (604800 : Int)))) (0 : Nat) (3 : Nat)) = Value.string (sub (shS (IntKind.wrap IntKind.i64 (inside n (0 : Int) (2145216799 : Int) + (604800 : Int)))) (0 : Nat) (3 : Nat))) ∧
                    (br (decide ((0 : Int) ≤ (17 : Int) ∧ (17 : Int) ≤ (↑(List.length (Array.toList (ByteArray.data (shS (inside n (0 : Int) (2145216799 : Int)))))) : Int) ∧ (↑(List.length (Array.toList (ByteArray.data (shS (inside n (0 : Int) (2145216799 : Int)))))) : Int) ≤ (↑(List.length (Array.toList (ByteArray.data (shS (inside n (0 : Int) (2145216799 : Int)))))) : Int)))
                     ((Value.string (sub (shS (inside n (0 : Int) (2145216799 : Int))) (17 : Nat) (Int.toNat (↑(List.length (Array.toList (ByteArray.data (shS (inside n (0 : Int) (2145216799 : Int)))))) : Int))) = Value.string (sub (shS (inside n (0 : Int) (2145216799 : Int))) (17 : Nat) (Int.toNat (↑(List.length (Array.toList (ByteArray.data (shS (inside n (0 : Int) (2145216799 : Int)))))) : Int)))) ∧
                     (br (decide ((0 : Int) ≤ (17 : Int) ∧ (17 : Int) ≤ (↑(List.length (Array.toList (ByteArray.data (shS (IntKind.wrap IntKind.i64 (inside n (0 : Int) (2145216799 : Int) + (604800 : Int))))))) : Int) ∧ (↑(List.length (Array.toList (ByteArray.data (shS (IntKind.wrap IntKind.i64 (inside n (0 : Int) (2145216799 : Int) + (604800 : Int))))))) : Int) ≤ (↑(List.length (Array.toList (ByteArray.data (shS (IntKind.wrap IntKind.i64 (inside n (0 : Int) (2145216799 : Int) + (604800 : Int))))))) : Int)))
                      ((Value.string (sub (shS (IntKind.wrap IntKind.i64 (inside n (0 : Int) (2145216799 : Int) + (604800 : Int)))) (17 : Nat) (Int.toNat (↑(List.length (Array.toList (ByteArray.data (shS (IntKind.wrap IntKind.i64 (inside n (0 : Int) (2145216799 : Int) + (604800 : Int))))))) : Int))) = Value.string (sub (shS (IntKind.wrap IntKind.i64 (inside n (0 : Int) (2145216799 : Int) + (604800 : Int)))) (17 : Nat) (Int.toNat (↑(List.length (Array.toList (ByteArray.data (shS (IntKind.wrap IntKind.i64 (inside n (0 : Int) (2145216799 : Int) + (604800 : Int))))))) : Int)))) ∧
                      ((true = true) ∧
                      True))
                      False))
                     False))
                    False))
                   False))
                  False))
                 False))
                (br (decide ((0 : Int) ≤ (↑(0 : Nat) : Int) ∧ (↑(0 : Nat) : Int) ≤ (22 : Int) ∧ (22 : Int) ≤ (↑(List.length (Array.toList (ByteArray.data (shS (inside n (0 : Int) (2145216799 : Int)))))) : Int)))
                 ((Value.string (sub (shS (inside n (0 : Int) (2145216799 : Int))) (0 : Nat) (22 : Nat)) = Value.string (sub (shS (inside n (0 : Int) (2145216799 : Int))) (0 : Nat) (22 : Nat))) ∧
                 (br (decide ((0 : Int) ≤ (↑(0 : Nat) : Int) ∧ (↑(0 : Nat) : Int) ≤ (22 : Int) ∧ (22 : Int) ≤ (↑(List.length (Array.toList (ByteArray.data (shS (IntKind.wrap IntKind.i64 (inside n (0 : Int) (2145216799 : Int) + (1 : Int))))))) : Int)))
                  ((Value.string (sub (shS (IntKind.wrap IntKind.i64 (inside n (0 : Int) (2145216799 : Int) + (1 : Int)))) (0 : Nat) (22 : Nat)) = Value.string (sub (shS (IntKind.wrap IntKind.i64 (inside n (0 : Int) (2145216799 : Int) + (1 : Int)))) (0 : Nat) (22 : Nat))) ∧
                  (br (decide ((0 : Int) ≤ (↑(0 : Nat) : Int) ∧ (↑(0 : Nat) : Int) ≤ (3 : Int) ∧ (3 : Int) ≤ (↑(List.length (Array.toList (ByteArray.data (shS (inside n (0 : Int) (2145216799 : Int)))))) : Int)))
                   ((Value.string (sub (shS (inside n (0 : Int) (2145216799 : Int))) (0 : Nat) (3 : Nat)) = Value.string (sub (shS (inside n (0 : Int) (2145216799 : Int))) (0 : Nat) (3 : Nat))) ∧
                   (br (decide ((0 : Int) ≤ (↑(0 : Nat) : Int) ∧ (↑(0 : Nat) : Int) ≤ (3 : Int) ∧ (3 : Int) ≤ (↑(List.length (Array.toList (ByteArray.data (shS (IntKind.wrap IntKind.i64 (inside n (0 : Int) (2145216799 : Int) + (604800 : Int))))))) : Int)))
                    ((Value.string (sub (shS (IntKind.wrap IntKind.i64 (inside n (0 : Int) (2145216799 : Int) + (604800 : Int)))) (0 : Nat) (3 : Nat)) = Value.string (sub (shS (IntKind.wrap IntKind.i64 (inside n (0 : Int) (2145216799 : Int) + (604800 : Int)))) (0 : Nat) (3 : Nat))) ∧
                    (br (decide ((0 : Int) ≤ (17 : Int) ∧ (17 : Int) ≤ (↑(List.length (Array.toList (ByteArray.data (shS (inside n (0 : Int) (2145216799 : Int)))))) : Int) ∧ (↑(List.length (Array.toList (ByteArray.data (shS (inside n (0 : Int) (2145216799 : Int)))))) : Int) ≤ (↑(List.length (Array.toList (ByteArray.data (shS (inside n (0 : Int) (2145216799 : Int)))))) : Int)))
                     ((Value.string (sub (shS (inside n (0 : Int) (2145216799 : Int))) (17 : Nat) (Int.toNat (↑(List.length (Array.toList (ByteArray.data (shS (inside n (0 : Int) (2145216799 : Int)))))) : Int))) = Value.string (sub (shS (inside n (0 : Int) (2145216799 : Int))) (17 : Nat) (Int.toNat (↑(List.length (Array.toList (ByteArray.data (shS (inside n (0 : Int) (2145216799 : Int)))))) : Int)))) ∧
                     (br (decide ((0 : Int) ≤ (17 : Int) ∧ (17 : Int) ≤ (↑(List.length (Array.toList (ByteArray.data (shS (IntKind.wrap IntKind.i64 (inside n (0 : Int) (2145216799 : Int) + (604800 : Int))))))) : Int) ∧ (↑(List.length (Array.toList (ByteArray.data (shS (IntKind.wrap IntKind.i64 (inside n (0 : Int) (2145216799 : Int) + (604800 : Int))))))) : Int) ≤ (↑(List.length (Array.toList (ByteArray.data (shS (IntKind.wrap IntKind.i64 (inside n (0 : Int) (2145216799 : Int) + (604800 : Int))))))) : Int)))
                      ((Value.string (sub (shS (IntKind.wrap IntKind.i64 (inside n (0 : Int) (2145216799 : Int) + (604800 : Int)))) (17 : Nat) (Int.toNat (↑(List.length (Array.toList (ByteArray.data (shS (IntKind.wrap IntKind.i64 (inside n (0 : Int) (2145216799 : Int) + (604800 : Int))))))) : Int))) = Value.string (sub (shS (IntKind.wrap IntKind.i64 (inside n (0 : Int) (2145216799 : Int) + (604800 : Int)))) (17 : Nat) (Int.toNat (↑(List.length (Array.toList (ByteArray.data (shS (IntKind.wrap IntKind.i64 (inside n (0 : Int) (2145216799 : Int) + (604800 : Int))))))) : Int)))) ∧
                      ((true = false) ∧
                      True))
                      False))
                     False))
                    False))
                   False))
                  False))
                 False))
               False)
              False)
             (br (decide ((0 : Int) ≤ (↑(0 : Nat) : Int) ∧ (↑(0 : Nat) : Int) ≤ (22 : Int) ∧ (22 : Int) ≤ (↑(List.length (Array.toList (ByteArray.data (shS (inside n (0 : Int) (2145216799 : Int)))))) : Int)))
              ((Value.string (sub (shS (inside n (0 : Int) (2145216799 : Int))) (0 : Nat) (22 : Nat)) = Value.string (sub (shS (inside n (0 : Int) (2145216799 : Int))) (0 : Nat) (22 : Nat))) ∧
              (br (decide ((0 : Int) ≤ (↑(0 : Nat) : Int) ∧ (↑(0 : Nat) : Int) ≤ (22 : Int) ∧ (22 : Int) ≤ (↑(List.length (Array.toList (ByteArray.data (shS (IntKind.wrap IntKind.i64 (inside n (0 : Int) (2145216799 : Int) + (1 : Int))))))) : Int)))
               ((Value.string (sub (shS (IntKind.wrap IntKind.i64 (inside n (0 : Int) (2145216799 : Int) + (1 : Int)))) (0 : Nat) (22 : Nat)) = Value.string (sub (shS (IntKind.wrap IntKind.i64 (inside n (0 : Int) (2145216799 : Int) + (1 : Int)))) (0 : Nat) (22 : Nat))) ∧
               (br (decide ((0 : Int) ≤ (↑(0 : Nat) : Int) ∧ (↑(0 : Nat) : Int) ≤ (3 : Int) ∧ (3 : Int) ≤ (↑(List.length (Array.toList (ByteArray.data (shS (inside n (0 : Int) (2145216799 : Int)))))) : Int)))
                ((Value.string (sub (shS (inside n (0 : Int) (2145216799 : Int))) (0 : Nat) (3 : Nat)) = Value.string (sub (shS (inside n (0 : Int) (2145216799 : Int))) (0 : Nat) (3 : Nat))) ∧
                (br (decide ((0 : Int) ≤ (↑(0 : Nat) : Int) ∧ (↑(0 : Nat) : Int) ≤ (3 : Int) ∧ (3 : Int) ≤ (↑(List.length (Array.toList (ByteArray.data (shS (IntKind.wrap IntKind.i64 (inside n (0 : Int) (2145216799 : Int) + (604800 : Int))))))) : Int)))
                 ((Value.string (sub (shS (IntKind.wrap IntKind.i64 (inside n (0 : Int) (2145216799 : Int) + (604800 : Int)))) (0 : Nat) (3 : Nat)) = Value.string (sub (shS (IntKind.wrap IntKind.i64 (inside n (0 : Int) (2145216799 : Int) + (604800 : Int)))) (0 : Nat) (3 : Nat))) ∧
                 ((true = false) ∧
                 True))
                 False))
                False))
               False))
              False))
            False)
           False)
          (br (decide ((0 : Int) ≤ (↑(0 : Nat) : Int) ∧ (↑(0 : Nat) : Int) ≤ (22 : Int) ∧ (22 : Int) ≤ (↑(List.length (Array.toList (ByteArray.data (shS (inside n (0 : Int) (2145216799 : Int)))))) : Int)))
           ((Value.string (sub (shS (inside n (0 : Int) (2145216799 : Int))) (0 : Nat) (22 : Nat)) = Value.string (sub (shS (inside n (0 : Int) (2145216799 : Int))) (0 : Nat) (22 : Nat))) ∧
           (br (decide ((0 : Int) ≤ (↑(0 : Nat) : Int) ∧ (↑(0 : Nat) : Int) ≤ (22 : Int) ∧ (22 : Int) ≤ (↑(List.length (Array.toList (ByteArray.data (shS (IntKind.wrap IntKind.i64 (inside n (0 : Int) (2145216799 : Int) + (1 : Int))))))) : Int)))
            ((Value.string (sub (shS (IntKind.wrap IntKind.i64 (inside n (0 : Int) (2145216799 : Int) + (1 : Int)))) (0 : Nat) (22 : Nat)) = Value.string (sub (shS (IntKind.wrap IntKind.i64 (inside n (0 : Int) (2145216799 : Int) + (1 : Int)))) (0 : Nat) (22 : Nat))) ∧
            ((true = false) ∧
            True))
            False))
           False))
         (br (decide ((0 : Int) ≤ (↑(0 : Nat) : Int) ∧ (↑(0 : Nat) : Int) ≤ (22 : Int) ∧ (22 : Int) ≤ (↑(List.length (Array.toList (ByteArray.data (shS (inside n (0 : Int) (2145216799 : Int)))))) : Int)))
          ((Value.string (sub (shS (inside n (0 : Int) (2145216799 : Int))) (0 : Nat) (22 : Nat)) = Value.string (sub (shS (inside n (0 : Int) (2145216799 : Int))) (0 : Nat) (22 : Nat))) ∧
          (br (decide ((0 : Int) ≤ (↑(0 : Nat) : Int) ∧ (↑(0 : Nat) : Int) ≤ (22 : Int) ∧ (22 : Int) ≤ (↑(List.length (Array.toList (ByteArray.data (shS (IntKind.wrap IntKind.i64 (inside n (0 : Int) (2145216799 : Int) + (1 : Int))))))) : Int)))
           ((Value.string (sub (shS (IntKind.wrap IntKind.i64 (inside n (0 : Int) (2145216799 : Int) + (1 : Int)))) (0 : Nat) (22 : Nat)) = Value.string (sub (shS (IntKind.wrap IntKind.i64 (inside n (0 : Int) (2145216799 : Int) + (1 : Int)))) (0 : Nat) (22 : Nat))) ∧
           ((true = false) ∧
           True))
           False))
          False))
        False)
       False))))))))) := by kernel_rfl
theorem dr_vc (a b : Int) : mcall EDy noM 60 8 [.int .i64 a, .int .i64 b] ⟨mkR (nums 0 []), 0⟩ (retIs 0 (.bool true) []) =
  ((((True ∧ (True ∧ (True ∧ True))) ∧ (True ∧ (I64 a ∧ ((-1000000000000 : Int) ≤ (0 : Int) ∧ ((0 : Int) ≤ (2145916799 : Int) ∧ (2145916799 : Int) ≤ (1000000000000 : Int))))))) ∧
  ((((True ∧ (True ∧ (True ∧ True))) ∧ (True ∧ (I64 b ∧ ((-1000000000000 : Int) ≤ (0 : Int) ∧ ((0 : Int) ≤ (2145916799 : Int) ∧ (2145916799 : Int) ≤ (1000000000000 : Int))))))) ∧
  ((((True ∧ True) ∧ (True ∧ True))) ∧
  ((((True ∧ True) ∧ (True ∧ List.length (L (shS (inside a (0 : Int) (2145916799 : Int)))) ≤ (9223372036854775807 : Nat)))) ∧
  ((((True ∧ True) ∧ (True ∧ True))) ∧
  ((((True ∧ True) ∧ (True ∧ List.length (L (shS (inside b (0 : Int) (2145916799 : Int)))) ≤ (9223372036854775807 : Nat)))) ∧
  (br (rdB (shS (inside a (0 : Int) (2145916799 : Int))))
   (br (rdB (shS (inside b (0 : Int) (2145916799 : Int))))
    (br (decide (rdI (shS (inside a (0 : Int) (2145916799 : Int))) < rdI (shS (inside b (0 : Int) (2145916799 : Int)))) == decide (inside a (0 : Int) (2145916799 : Int) < inside b (0 : Int) (2145916799 : Int)))
     ((((True ∧ True) ∧ (True ∧ True))) ∧
     ((((True ∧ True) ∧ (True ∧ True))) ∧
     (br (strEq (shS (inside a (0 : Int) (2145916799 : Int))) (shS (inside b (0 : Int) (2145916799 : Int))) == (inside a (0 : Int) (2145916799 : Int) == inside b (0 : Int) (2145916799 : Int)))
      (((True ∧ (True ∧ True))) ∧
      ((true = true) ∧
      True))
      ((true = false) ∧
      True))))
     ((true = false) ∧
     True))
    ((true = false) ∧
    True))
   ((true = false) ∧
   True)))))))) := by kernel_rfl
theorem cDy_ok : ∀ f a rows p v news, cDy f a rows = some (p, v, news) → p → Con Try.prog f a rows v (rows ++ news) := by
  intro f a rows p v news h hp
  unfold cDy at h
  split at h <;> simp only [Option.some.injEq, Prod.mk.injEq, reduceCtorEq] at h <;> obtain ⟨rfl, rfl, rfl⟩ := h
  · exact Rd_con (L _) hp
  · exact Sh_con2 _
  · obtain ⟨h1, h2, h3, h4⟩ := hp
    exact within_con _ _ _ h1 h2 h4 h3
  · exact con_run mixed (n := 1000000) (by kernel_rfl) (by kernel_rfl)
theorem shS_nat (k : Nat) (h : k ≤ 2145916799) : shS (k : Int) = bs (shL k) := by
  unfold shS shN
  rw [show (min (max (k : Int) 0) 2147483647).toNat = k by omega]
theorem rd_bs (l : List UInt8) : rdI (bs l) = ((rdL l).getD 0 : Nat) ∧ rdB (bs l) = (rdL l).isSome := ⟨rfl, rfl⟩
theorem sh_facts (k : Nat) (h : k ≤ 2145916799) : shS (k : Int) = bs (shL k) ∧ rdI (bs (shL k)) = (k : Int) ∧ rdB (bs (shL k)) = true ∧ (shL k).length = 29 := by
  refine ⟨shS_nat k h, ?_, ?_, shL_len k⟩
  · rw [(rd_bs _).1, rd_sh k h]; rfl
  · rw [(rd_bs _).2, rd_sh k h]; rfl
theorem sh_back (t : List UInt8) (b : Nat) (h : rdL t = some b) : shS (rdI (bs t)) = bs t := by
  obtain ⟨h1, h2⟩ := sh_rd t b h
  rw [(rd_bs _).1, h, Option.getD_some, shS_nat b h1, h2]
theorem in_last (n : Int) (m : Nat) : ∃ k : Nat, inside n 0 (m : Nat) = (k : Nat) ∧ k ≤ m := by
  have := inside_in n 0 (m : Nat) (by omega)
  exact ⟨(inside n 0 (m : Nat)).toNat, by omega, by omega⟩
theorem shP_cut (d r : Nat) : sl (shP d r) 0 3 = nm3 wkL (d % 7) ∧ sl (shP d r) 0 22 = nm3 wkL (d % 7) ++ [44, 32] ++ dg2 (d - befN (yrN d) (moN d) + 1) ++ [32] ++ nm3 moL (moN d) ++ [32] ++ dg4 (yrN d) ++ [32] ++ dg2 (r / 3600) ++ [58] ++ dg2 (r / 60 % 60) ∧
    sl (shP d r) 17 29 = dg2 (r / 3600) ++ [58] ++ dg2 (r / 60 % 60) ++ [58] ++ dg2 (r % 60) ++ [32, 71, 77, 84] := by
  obtain ⟨w0, w1, w2, m0, m1, m2, hw, hm, hs⟩ := shP_list d r
  rw [hs, hw, hm]
  exact ⟨rfl, rfl, rfl⟩
theorem db_law (n : Int) (s : ByteArray) (hn : I64 n) (hs : s.size ≤ maxLen) : Con Try.prog 5 [.int .i64 n, .string s] [] (.bool true) [] := by
  obtain ⟨s, rfl⟩ : ∃ l, s = bs l := ⟨L s, rfl⟩
  have hs : s.length ≤ maxLen := hs
  refine con_vc (E := EDy) mixed (calls_envC cDy_ok) (lok_envC _ _ _) (M := noM) lm_none (db_vc n s) ?_
  have hm : maxLen = 9223372036854775807 := by unfold maxLen; rfl
  obtain ⟨k, hk, hk2⟩ := in_last n 2145916799
  have hk : inside n 0 2145916799 = (k : Int) := hk
  obtain ⟨a1, a2, a3, a4⟩ := sh_facts k hk2
  have key : ∀ t : List UInt8, br (!rdB (bs t)) True (br (strEq (shS (rdI (bs t))) (bs t)) True (true = false)) := fun t => by
    cases h : rdL t with
    | none => exact br_b (by rw [(rd_bs t).2, h]; rfl) trivial
    | some b => exact br_nb (by rw [(rd_bs t).2, h]; rfl) (br_b (by rw [sh_back t b h, strEq_bs]; simp) trivial)
  have lt := sl_len s 0 200
  simp only [ofNat_eq, toNat_cast, Nat.zero_add, Nat.add_zero, Nat.mul_one, List.drop_zero, bCells_len, bCells_drop, bCells_take, bCells_app, bCells_one, bCells_plain, List.length_replicate, List.length_append, List.length_take, List.length_drop, List.take_length, and_true, true_and, and_self, decide_true, List.length_nil, List.length_cons, Nat.sub_zero, dB_mk, dB_ro, List.take_zero, bs_dd, hk, a1, a2, a3, a4, L_bsd, sub_sl]
  refine br_if (fun h => br_dec (by omega) ⟨⟨hn, by omega, by omega, by omega⟩, by omega, by omega, br_b (by simp) (br_b rfl (key _))⟩) (fun h => ⟨⟨hn, by omega, by omega, by omega⟩, by omega, by omega, br_b (by simp) (br_b rfl (key _))⟩)
theorem dt_law (n at_ : Int) (c : UInt8) (hn : I64 n) (hat : I64 at_) : Con Try.prog 6 [.int .i64 n, .int .i64 at_, bVal c] [] (.bool true) [] := by
  refine con_vc (E := EDy) mixed (calls_envC cDy_ok) (lok_envC _ _ _) (M := noM) lm_none (dt_vc n at_ c) ?_
  have hm : maxLen = 9223372036854775807 := by unfold maxLen; rfl
  obtain ⟨k, hk, hk2⟩ := in_last n 2145916799
  have hk : inside n 0 2145916799 = (k : Int) := hk
  obtain ⟨i, hi, hi2⟩ := in_last at_ 28
  have hi : inside at_ 0 28 = (i : Int) := hi
  obtain ⟨a1, a2, a3, a4⟩ := sh_facts k hk2
  have w := i64_succ (show i < 9223372036854775807 by omega)
  have e0 : (⟨#[UInt8.ofNat c.toNat]⟩ : ByteArray) = bs [c] := by rw [UInt8.ofNat_toNat]; rfl
  have ln0 := sl_len (shL k) 0 i
  have ln1 := sl_len (shL k) (i + 1) 29
  have hrd := rd_sh k hk2
  simp only [ofNat_eq, toNat_cast, Nat.zero_add, Nat.add_zero, Nat.mul_one, List.drop_zero, bCells_len, bCells_drop, bCells_take, bCells_app, bCells_one, bCells_plain, List.length_replicate, List.length_append, List.length_take, List.length_drop, List.take_length, and_true, true_and, and_self, decide_true, List.length_nil, List.length_cons, Nat.sub_zero, dB_mk, dB_ro, List.take_zero, bs_dd, hk, hi, a1, a4, w, sub_sl, toNat_cast, e0, bs_app, L_bsd]
  simp (disch := omega) only [brT]
  obtain ⟨t, ht⟩ : ∃ t, t = sl (shL k) 0 i ++ [c] ++ sl (shL k) (i + 1) 29 := ⟨_, rfl⟩
  have lt : t.length ≤ 100 := by rw [ht, List.length_append, List.length_append, List.length_singleton]; omega
  rw [← ht]
  refine ⟨⟨hn, by omega, by omega, by omega⟩, br_nb (by simp) ⟨⟨hat, by omega, by omega, by omega⟩, by omega, ?_⟩⟩
  rw [strEq_bs]
  cases h : rdL t with
  | none =>
    refine br_nb (by rw [(rd_bs t).2, h]; rfl) (br_b ?_ trivial)
    have : shL k ≠ t := fun e => by rw [e, h] at hrd; simp at hrd
    simp [this]
  | some b =>
    refine br_b (by rw [(rd_bs t).2, h]; rfl) (br_b ?_ trivial)
    obtain ⟨h1, h2⟩ := sh_rd t b h
    rw [(rd_bs t).1, h, Option.getD_some]
    by_cases e : b = k
    · subst e; simp [h2]
    · have n1 : shL k ≠ t := fun e2 => e (by rw [← e2, hrd] at h; simpa using h.symm)
      have n2 : ¬ ((b : Int) = (k : Int)) := by omega
      simp [n1, n2]
theorem br_yes {P : Prop} {d : Decidable P} {p q : Prop} (h : P) (k : p) : br (@decide P d) p q := by rw [decide_eq_true h]; exact k
theorem br_ne {P : Prop} {d : Decidable P} {p q : Prop} (h : ¬ P) (k : p) : br (!(@decide P d)) p q := by rw [decide_eq_false h]; exact k
theorem sh_ne1 (k j : Nat) (h : j ≤ 2145916799) (h0 : k ≤ 2145916799) (hj : j = k + 1) : shL k ≠ shL j := fun e => by
  have := sh_inj h0 h e
  omega
theorem sh_ne (k : Nat) (h : k + 1 ≤ 2145916799) : shL k ≠ shL (k + 1) := sh_ne1 k (k + 1) h (by omega) rfl
theorem tm60 (k : Nat) : (k : Int).tmod 60 = ((k % 60 : Nat) : Int) := by rw [Int.tmod_eq_emod_of_nonneg (by omega)]; omega
theorem wk_wrap (k K : Nat) (h : (k : Int) + 604800 = (K : Int)) (hk : k ≤ 2145216799) : IntKind.i64.wrap ((k : Int) + 604800) = (K : Int) := by
  rw [h]; exact wr64_id (by unfold I64; omega)
theorem wk_later (k K : Nat) (h : (k : Int) + 604800 = (K : Int)) : sl (shL k) 0 3 = sl (shL K) 0 3 ∧ sl (shL k) 17 29 = sl (shL K) 17 29 := by
  have d7 : K / 86400 = k / 86400 + 7 := by omega
  have r7 : K % 86400 = k % 86400 := by omega
  unfold shL
  rw [d7, r7]
  generalize k / 86400 = d
  generalize k % 86400 = r
  rw [(shP_cut _ _).1, (shP_cut _ _).1, (shP_cut _ _).2.2, (shP_cut _ _).2.2, Nat.add_mod_right]
  exact ⟨rfl, rfl⟩
theorem sec_later (k : Nat) (h : k % 60 ≠ 59) : sl (shL k) 0 22 = sl (shL (k + 1)) 0 22 := by
  have e1 : (k + 1) / 86400 = k / 86400 := by omega
  have e2 : (k + 1) % 86400 = k % 86400 + 1 := by omega
  have e3 : k % 86400 % 60 ≠ 59 := by omega
  unfold shL
  rw [e1, e2]
  generalize k % 86400 = r at e3 ⊢
  have e4 : (r + 1) / 60 = r / 60 := by omega
  have e5 : (r + 1) / 3600 = r / 3600 := by omega
  rw [(shP_cut _ _).2.1, (shP_cut _ _).2.1, e4, e5]
set_option maxHeartbeats 2000000 in
theorem dn_law (n : Int) (hn : I64 n) : Con Try.prog 7 [.int .i64 n] [] (.bool true) [] := by
  refine con_vc (E := EDy) mixed (calls_envC cDy_ok) (lok_envC _ _ _) (M := noM) lm_none (dn_vc n) ?_
  obtain ⟨k, hk, hk2⟩ := in_last n 2145216799
  have hk : inside n 0 2145216799 = (k : Int) := hk
  obtain ⟨a1, _, _, a4⟩ := sh_facts k (by omega)
  obtain ⟨b1, _, _, b4⟩ := sh_facts (k + 1) (by omega)
  obtain ⟨K, hKi⟩ : ∃ K : Nat, (k : Int) + 604800 = (K : Int) := ⟨((k : Int) + 604800).toNat, (Int.toNat_of_nonneg (by omega)).symm⟩
  obtain ⟨c1, _, _, c4⟩ := sh_facts K (by omega)
  have w1 := i64_succ (show k < 9223372036854775807 by omega)
  have w2 := wk_wrap k K hKi hk2
  have q60 := tm60 k
  obtain ⟨h3, h17⟩ := wk_later k K hKi
  have h22 := sec_later k
  have hab := sh_ne k (Nat.le_trans (Nat.succ_le_succ hk2) (by decide))
  simp only [ofNat_eq, toNat_cast, Nat.zero_add, Nat.add_zero, Nat.mul_one, List.drop_zero, bCells_len, bCells_drop, bCells_take, bCells_app, bCells_one, bCells_plain, List.length_replicate, List.length_append, List.length_take, List.length_drop, List.take_length, and_true, true_and, and_self, decide_true, List.length_nil, List.length_cons, Nat.sub_zero, dB_mk, dB_ro, List.take_zero, bs_dd, hk, w1, w2, a1, b1, c1, a4, b4, c4, q60, sub_sl, strEq_bs, h3, h17]
  simp (disch := omega) only [brT]
  refine ⟨⟨hn, by omega, by omega, by omega⟩, br_nb (by simp) (br_nb (by simp) (br_nb (by simp) ?_))⟩
  refine br_intro (fun _ => ?_) (fun h => ?_)
  · exact br_ne hab (br_b rfl (br_b rfl trivial))
  · have h : k % 60 ≠ 59 := by
      have h : ¬ ((k % 60 : Nat) : Int) = 59 := by simpa using h
      omega
    have e := h22 h
    clear h22 h3 h17 a1 b1 c1 a4 b4 c4 w1 w2
    simp only [e]
    exact br_yes trivial (br_ne hab (br_b rfl (br_b rfl trivial)))
theorem dr_law (a b : Int) (ha : I64 a) (hb : I64 b) : Con Try.prog 8 [.int .i64 a, .int .i64 b] [] (.bool true) [] := by
  refine con_vc (E := EDy) mixed (calls_envC cDy_ok) (lok_envC _ _ _) (M := noM) lm_none (dr_vc a b) ?_
  have hm : maxLen = 9223372036854775807 := by unfold maxLen; rfl
  obtain ⟨k, hk, hk2⟩ := in_last a 2145916799
  have hk : inside a 0 2145916799 = (k : Int) := hk
  obtain ⟨j, hj, hj2⟩ := in_last b 2145916799
  have hj : inside b 0 2145916799 = (j : Int) := hj
  obtain ⟨a1, a2, a3, a4⟩ := sh_facts k hk2
  obtain ⟨b1, b2, b3, b4⟩ := sh_facts j hj2
  have hin : (decide (shL k = shL j)) = ((k : Int) == (j : Int)) := by
    by_cases e : k = j
    · subst e; simp
    · have n1 : shL k ≠ shL j := fun e2 => e (sh_inj hk2 hj2 e2)
      have n2 : ¬ ((k : Int) = (j : Int)) := by omega
      simp [n1, n2]
  simp only [ofNat_eq, toNat_cast, Nat.zero_add, Nat.add_zero, Nat.mul_one, List.drop_zero, bCells_len, bCells_drop, bCells_take, bCells_app, bCells_one, bCells_plain, List.length_replicate, List.length_append, List.length_take, List.length_drop, List.take_length, and_true, true_and, and_self, decide_true, List.length_nil, List.length_cons, Nat.sub_zero, dB_mk, dB_ro, List.take_zero, bs_dd, hk, hj, a1, a2, a3, a4, b1, b2, b3, b4, L_bsd, strEq_bs, hin]
  exact ⟨⟨ha, by omega, by omega, by omega⟩, ⟨hb, by omega, by omega, by omega⟩, by omega, by omega, br_b rfl (br_b rfl (br_b (by simp) (br_b (by simp) trivial)))⟩
end Go.Proofs.Ytnimempjpkidhaa.tk
