/- The laws: codes apart, in order; sizes. -/
import Derived.Test.YtbpeollodpjicaaSz9
import Derived.Test.YtbpeollodpjicaaRows
import Derived.Test.YtbpeollodpjicaaLhfR
import Derived.Test.YtbpeollodpjicaaLhfT
set_option maxRecDepth 20000
set_option linter.unusedSimpArgs false
set_option linter.unusedVariables false
namespace Go.Proofs.Ytbpeollodpjicaa.hf
open Go Go.Ev Go.Sy Go.RowKit Go.Proofs.Ytbpeollodpjicaa.gl Go.Proofs.Ytbpeollodpjicaa.tk
noncomputable def eRunsH : EntM := entC 3 fun a r => match a, r with
  | [], [] => some (True, .bool true, [])
  | _, _ => none
noncomputable def eWiH : EntM := entC 22 fun a r => match a, r with
  | [.int .i64 n, .int .i64 lo, .int .i64 hi], [] => some (I64 n ∧ -1000000000000 ≤ lo ∧ hi ≤ 1000000000000 ∧ lo ≤ hi, .int .i64 (Go.Proofs.Ytbpeollodpjicaa.tk.inside n lo hi), [])
  | _, _ => none
noncomputable def tH : List EntM := [eCode, eSize, eEnc, eDec, eSame, eRunsH, eWiH]
noncomputable abbrev EtH : Env := envT Try.prog tH
theorem Ap_vc (a b : Int) : mcall EtH noM 60 7 [.int .i64 a, .int .i64 b] ⟨mkR (nums 0 []), 0⟩ (retIs 0 (.bool true) []) =
  ((((True ∧ (True ∧ (True ∧ True))) ∧ (True ∧ (True ∧ (I64 a ∧ ((-1000000000000 : Int) ≤ (0 : Int) ∧ ((256 : Int) ≤ (1000000000000 : Int) ∧ (0 : Int) ≤ (256 : Int)))))))) ∧
  ((((True ∧ (True ∧ (True ∧ True))) ∧ (True ∧ (True ∧ (I64 b ∧ ((-1000000000000 : Int) ≤ (0 : Int) ∧ ((256 : Int) ≤ (1000000000000 : Int) ∧ (0 : Int) ≤ (256 : Int)))))))) ∧
  ((((True ∧ True) ∧ (True ∧ (True ∧ True)))) ∧
  ((((True ∧ True) ∧ (True ∧ (True ∧ True)))) ∧
  (br (decide (lenI (inside a (0 : Int) (256 : Int)) < (5 : Int)))
   ((true = false) ∧
   True)
   (br (decide (lenI (inside a (0 : Int) (256 : Int)) > (30 : Int)))
    ((true = false) ∧
    True)
    (br (decide (lenI (inside b (0 : Int) (256 : Int)) < (5 : Int)))
     ((true = false) ∧
     True)
     (br (decide (lenI (inside b (0 : Int) (256 : Int)) > (30 : Int)))
      ((true = false) ∧
      True)
      (br (decide (cdZ (inside a (0 : Int) (256 : Int)) < (0 : Int)))
       ((true = false) ∧
       True)
       (br (decide ((0 : Int) ≤ lenI (inside a (0 : Int) (256 : Int))))
        (br (ishr IntKind.i64 (cdZ (inside a (0 : Int) (256 : Int))) (lenI (inside a (0 : Int) (256 : Int))) != (0 : Int))
         ((true = false) ∧
         True)
         (br (decide (cdZ (inside b (0 : Int) (256 : Int)) < (0 : Int)))
          ((true = false) ∧
          True)
          (br (decide ((0 : Int) ≤ lenI (inside b (0 : Int) (256 : Int))))
           (br (ishr IntKind.i64 (cdZ (inside b (0 : Int) (256 : Int))) (lenI (inside b (0 : Int) (256 : Int))) != (0 : Int))
            ((true = false) ∧
            True)
            (br (decide ((0 : Int) ≤ IntKind.wrap IntKind.i64 (lenI (inside a (0 : Int) (256 : Int)) - if lenI (inside b (0 : Int) (256 : Int)) < lenI (inside a (0 : Int) (256 : Int)) then lenI (inside b (0 : Int) (256 : Int)) else lenI (inside a (0 : Int) (256 : Int)))))
             (br (decide ((0 : Int) ≤ IntKind.wrap IntKind.i64 (lenI (inside b (0 : Int) (256 : Int)) - if lenI (inside b (0 : Int) (256 : Int)) < lenI (inside a (0 : Int) (256 : Int)) then lenI (inside b (0 : Int) (256 : Int)) else lenI (inside a (0 : Int) (256 : Int)))))
              (br ((inside a (0 : Int) (256 : Int) == inside b (0 : Int) (256 : Int)) == (ishr IntKind.i64 (cdZ (inside a (0 : Int) (256 : Int))) (IntKind.wrap IntKind.i64 (lenI (inside a (0 : Int) (256 : Int)) - if lenI (inside b (0 : Int) (256 : Int)) < lenI (inside a (0 : Int) (256 : Int)) then lenI (inside b (0 : Int) (256 : Int)) else lenI (inside a (0 : Int) (256 : Int)))) == ishr IntKind.i64 (cdZ (inside b (0 : Int) (256 : Int))) (IntKind.wrap IntKind.i64 (lenI (inside b (0 : Int) (256 : Int)) - if lenI (inside b (0 : Int) (256 : Int)) < lenI (inside a (0 : Int) (256 : Int)) then lenI (inside b (0 : Int) (256 : Int)) else lenI (inside a (0 : Int) (256 : Int))))))
               (((True ∧ (True ∧ (True ∧ True)))) ∧
               ((true = true) ∧
               True))
               ((true = false) ∧
               True))
              False)
             False))
           False)))
        False)))))))))) := by kernel_rfl
theorem Ri_vc (a b : Int) : mcall EtH noM 60 9 [.int .i64 a, .int .i64 b] ⟨mkR (nums 0 []), 0⟩ (retIs 0 (.bool true) []) =
  ((((True ∧ (True ∧ (True ∧ True))) ∧ (True ∧ (True ∧ (I64 a ∧ ((-1000000000000 : Int) ≤ (0 : Int) ∧ ((256 : Int) ≤ (1000000000000 : Int) ∧ (0 : Int) ≤ (256 : Int)))))))) ∧
  ((((True ∧ (True ∧ (True ∧ True))) ∧ (True ∧ (True ∧ (I64 b ∧ ((-1000000000000 : Int) ≤ (0 : Int) ∧ ((256 : Int) ≤ (1000000000000 : Int) ∧ (0 : Int) ≤ (256 : Int)))))))) ∧
  ((((True ∧ True) ∧ (True ∧ (True ∧ True)))) ∧
  ((((True ∧ True) ∧ (True ∧ (True ∧ True)))) ∧
  (br (lenI (inside a (0 : Int) (256 : Int)) == lenI (inside b (0 : Int) (256 : Int)))
   (br (decide (inside a (0 : Int) (256 : Int) < inside b (0 : Int) (256 : Int)) == decide (cdZ (inside a (0 : Int) (256 : Int)) < cdZ (inside b (0 : Int) (256 : Int))))
    (((True ∧ (True ∧ (True ∧ True)))) ∧
    ((true = true) ∧
    True))
    ((true = false) ∧
    True))
   (br (decide ((0 : Int) ≤ IntKind.wrap IntKind.i64 ((30 : Int) - if (30 : Int) < lenI (inside a (0 : Int) (256 : Int)) then (30 : Int) else lenI (inside a (0 : Int) (256 : Int)))))
    (br (decide ((0 : Int) ≤ IntKind.wrap IntKind.i64 ((30 : Int) - if (30 : Int) < lenI (inside b (0 : Int) (256 : Int)) then (30 : Int) else lenI (inside b (0 : Int) (256 : Int)))))
     (br (decide (lenI (inside a (0 : Int) (256 : Int)) < lenI (inside b (0 : Int) (256 : Int))) == decide (ishl IntKind.i64 (cdZ (inside a (0 : Int) (256 : Int))) (IntKind.wrap IntKind.i64 ((30 : Int) - if (30 : Int) < lenI (inside a (0 : Int) (256 : Int)) then (30 : Int) else lenI (inside a (0 : Int) (256 : Int)))) < ishl IntKind.i64 (cdZ (inside b (0 : Int) (256 : Int))) (IntKind.wrap IntKind.i64 ((30 : Int) - if (30 : Int) < lenI (inside b (0 : Int) (256 : Int)) then (30 : Int) else lenI (inside b (0 : Int) (256 : Int))))))
      (((True ∧ (True ∧ (True ∧ True)))) ∧
      ((true = true) ∧
      True))
      ((true = false) ∧
      True))
     False)
    False)))))) := by kernel_rfl
theorem Sz2_vc (s t : List UInt8) : mcall EtH noM 60 10 [.string (bs s), .string (bs t)] ⟨mkR (nums 0 []), 0⟩ (retIs 0 (.bool true) []) =
  (br (decide (Int.ofNat (List.length (Array.toList (ByteArray.data (bs s)))) > (300 : Int)))
   (((True ∧ (True ∧ (True ∧ True)))) ∧
   ((true = true) ∧
   True))
   (br (decide (Int.ofNat (List.length (Array.toList (ByteArray.data (bs t)))) > (300 : Int)))
    (((True ∧ (True ∧ (True ∧ True)))) ∧
    ((true = true) ∧
    True))
    ((((True ∧ True) ∧ (True ∧ (True ∧ List.length (L (bs s)) ≤ (16777216 : Nat))))) ∧
    ((((True ∧ True) ∧ (True ∧ (True ∧ List.length (L (bs t)) ≤ (16777216 : Nat))))) ∧
    (br (decide (List.length (Array.toList (ByteArray.data (bs s))) + List.length (Array.toList (ByteArray.data (bs t))) ≤ (9223372036854775807 : Nat)))
     ((((True ∧ True) ∧ (True ∧ (True ∧ List.length (L (bs s ++ bs t)) ≤ (16777216 : Nat))))) ∧
     (br (decide (szZ (bs s ++ bs t) ≤ IntKind.wrap IntKind.i64 (szZ (bs s) + szZ (bs t))))
      (br (decide (szZ (bs s ++ bs t) ≥ IntKind.wrap IntKind.i64 (IntKind.wrap IntKind.i64 (szZ (bs s) + szZ (bs t)) - (1 : Int))))
       (br (decide (szZ (bs s) ≥ (0 : Int)))
        (br ((szZ (bs s) == (0 : Int)) == strEq (bs s) (ByteArray.mk #[]))
         (((True ∧ (True ∧ (True ∧ True)))) ∧
         ((true = true) ∧
         True))
         ((true = false) ∧
         True))
        ((true = false) ∧
        True))
       ((true = false) ∧
       True))
      ((true = false) ∧
      True)))
     False))))) := by kernel_rfl
theorem Bk_vc (s l : List UInt8) : mcall EtH noM 60 6 [.string (bs s), slc 0 l.length] ⟨mkR (nums 0 [bRo l]), 1⟩ (retIs 1 (.bool true) [bRo l]) =
  (br (decide (Int.ofNat (List.length (Array.toList (ByteArray.data (bs s)))) > (300 : Int)))
   (br (decide ((0 : Int) ≤ (↑(0 : Nat) : Int) ∧ (↑(0 : Nat) : Int) ≤ (300 : Int) ∧ (300 : Int) ≤ (↑(List.length (Array.toList (ByteArray.data (bs s)))) : Int)))
    (br (decide (Int.ofNat (List.length l) > (300 : Int)))
     (br (decide ((0 : Int) ≤ (↑(0 : Nat) : Int) ∧ (↑(0 : Nat) : Int) ≤ (300 : Int) ∧ (300 : Int) ≤ (↑(List.length l) : Int)))
      ((((True ∧ True) ∧ (True ∧ ((Plain (enC (sub (bs s) (0 : Nat) (300 : Nat))) ∧ True) ∧ List.length (L (sub (bs s) (0 : Nat) (300 : Nat))) ≤ (1048576 : Nat))))) ∧
      ((((((0 : Nat) + enN (sub (bs s) (0 : Nat) (300 : Nat)) * (1 : Nat) ≤ List.length (enC (sub (bs s) (0 : Nat) (300 : Nat))) ∧ Plain (List.take (enN (sub (bs s) (0 : Nat) (300 : Nat)) * (1 : Nat)) (List.drop (0 : Nat) (enC (sub (bs s) (0 : Nat) (300 : Nat)))))) ∧ True) ∧ ((True ∧ True) ∧ (True ∧ (IsB (Row.mk (List.take (enN (sub (bs s) (0 : Nat) (300 : Nat)) * (1 : Nat)) (List.drop (0 : Nat) (enC (sub (bs s) (0 : Nat) (300 : Nat))))) true (Ob.cells true)) (enN (sub (bs s) (0 : Nat) (300 : Nat))) ∧ enN (sub (bs s) (0 : Nat) (300 : Nat)) ≤ (1048576 : Nat)))))) ∧
      ((((((300 : Nat) ≤ List.length (bCells l) ∧ Plain (List.take (300 : Nat) (List.drop (0 : Nat) (bCells l)))) ∧ True) ∧ ((True ∧ True) ∧ (True ∧ (IsB (Row.mk (List.take (300 : Nat) (List.drop (0 : Nat) (bCells l))) true (Ob.cells true)) (300 : Nat) ∧ Int.toNat (300 : Int) - Int.toNat (↑(0 : Nat) : Int) ≤ (1048576 : Nat)))))) ∧
      (br (strEq (dtZ (Row.mk (List.take (enN (sub (bs s) (0 : Nat) (300 : Nat)) * (1 : Nat)) (List.drop (0 : Nat) (enC (sub (bs s) (0 : Nat) (300 : Nat))))) true (Ob.cells true))) (sub (bs s) (0 : Nat) (300 : Nat)))
       (br (deZ (Row.mk (List.take (enN (sub (bs s) (0 : Nat) (300 : Nat)) * (1 : Nat)) (List.drop (0 : Nat) (enC (sub (bs s) (0 : Nat) (300 : Nat))))) true (Ob.cells true)) == (0 : Int))
        (br (deZ (Row.mk (List.take (300 : Nat) (List.drop (0 : Nat) (bCells l))) true (Ob.cells true)) != (0 : Int))
         (((True ∧ (True ∧ (True ∧ True)))) ∧
         ((true = true) ∧
         ((Eq (α := List Value) (bCells l) (bCells l)) ∧
         ((Plain (bCells l)) ∧
         True))))
         ((((True ∧ True) ∧ (True ∧ ((Plain (enC (dtZ (Row.mk (List.take (300 : Nat) (List.drop (0 : Nat) (bCells l))) true (Ob.cells true)))) ∧ True) ∧ List.length (L (dtZ (Row.mk (List.take (300 : Nat) (List.drop (0 : Nat) (bCells l))) true (Ob.cells true)))) ≤ (1048576 : Nat))))) ∧
         ((((((0 : Nat) + enN (dtZ (Row.mk (List.take (300 : Nat) (List.drop (0 : Nat) (bCells l))) true (Ob.cells true))) * (1 : Nat) ≤ List.length (enC (dtZ (Row.mk (List.take (300 : Nat) (List.drop (0 : Nat) (bCells l))) true (Ob.cells true)))) ∧ Plain (List.take (enN (dtZ (Row.mk (List.take (300 : Nat) (List.drop (0 : Nat) (bCells l))) true (Ob.cells true))) * (1 : Nat)) (List.drop (0 : Nat) (enC (dtZ (Row.mk (List.take (300 : Nat) (List.drop (0 : Nat) (bCells l))) true (Ob.cells true))))))) ∧ (((300 : Nat) ≤ List.length (bCells l) ∧ Plain (List.take (300 : Nat) (List.drop (0 : Nat) (bCells l)))) ∧ True)) ∧ ((True ∧ (True ∧ True)) ∧ (True ∧ (IsB (Row.mk (List.take (enN (dtZ (Row.mk (List.take (300 : Nat) (List.drop (0 : Nat) (bCells l))) true (Ob.cells true))) * (1 : Nat)) (List.drop (0 : Nat) (enC (dtZ (Row.mk (List.take (300 : Nat) (List.drop (0 : Nat) (bCells l))) true (Ob.cells true)))))) true (Ob.cells true)) (enN (dtZ (Row.mk (List.take (300 : Nat) (List.drop (0 : Nat) (bCells l))) true (Ob.cells true)))) ∧ (IsB (Row.mk (List.take (300 : Nat) (List.drop (0 : Nat) (bCells l))) true (Ob.cells true)) (300 : Nat) ∧ enN (dtZ (Row.mk (List.take (300 : Nat) (List.drop (0 : Nat) (bCells l))) true (Ob.cells true))) ≤ (9223372036854775807 : Nat))))))) ∧
         (br (smZ (Row.mk (List.take (enN (dtZ (Row.mk (List.take (300 : Nat) (List.drop (0 : Nat) (bCells l))) true (Ob.cells true))) * (1 : Nat)) (List.drop (0 : Nat) (enC (dtZ (Row.mk (List.take (300 : Nat) (List.drop (0 : Nat) (bCells l))) true (Ob.cells true)))))) true (Ob.cells true)) (Row.mk (List.take (300 : Nat) (List.drop (0 : Nat) (bCells l))) true (Ob.cells true)))
          (((True ∧ (True ∧ (True ∧ True)))) ∧
          ((true = true) ∧
          ((Eq (α := List Value) (bCells l) (bCells l)) ∧
          ((Plain (bCells l)) ∧
          True))))
          ((true = false) ∧
          ((Eq (α := List Value) (bCells l) (bCells l)) ∧
          ((Plain (bCells l)) ∧
          True)))))))
        ((true = false) ∧
        ((Eq (α := List Value) (bCells l) (bCells l)) ∧
        ((Plain (bCells l)) ∧
        True))))
       ((true = false) ∧
       ((Eq (α := List Value) (bCells l) (bCells l)) ∧
       ((Plain (bCells l)) ∧
       True)))))))
      False)
     ((((True ∧ True) ∧ (True ∧ ((Plain (enC (sub (bs s) (0 : Nat) (300 : Nat))) ∧ True) ∧ List.length (L (sub (bs s) (0 : Nat) (300 : Nat))) ≤ (1048576 : Nat))))) ∧
     ((((((0 : Nat) + enN (sub (bs s) (0 : Nat) (300 : Nat)) * (1 : Nat) ≤ List.length (enC (sub (bs s) (0 : Nat) (300 : Nat))) ∧ Plain (List.take (enN (sub (bs s) (0 : Nat) (300 : Nat)) * (1 : Nat)) (List.drop (0 : Nat) (enC (sub (bs s) (0 : Nat) (300 : Nat)))))) ∧ True) ∧ ((True ∧ True) ∧ (True ∧ (IsB (Row.mk (List.take (enN (sub (bs s) (0 : Nat) (300 : Nat)) * (1 : Nat)) (List.drop (0 : Nat) (enC (sub (bs s) (0 : Nat) (300 : Nat))))) true (Ob.cells true)) (enN (sub (bs s) (0 : Nat) (300 : Nat))) ∧ enN (sub (bs s) (0 : Nat) (300 : Nat)) ≤ (1048576 : Nat)))))) ∧
     ((((((0 : Nat) + List.length l * (1 : Nat) ≤ List.length (bCells l) ∧ Plain (List.take (List.length l * (1 : Nat)) (List.drop (0 : Nat) (bCells l)))) ∧ True) ∧ ((True ∧ True) ∧ (True ∧ (IsB (Row.mk (List.take (List.length l * (1 : Nat)) (List.drop (0 : Nat) (bCells l))) true (Ob.cells true)) (List.length l) ∧ List.length l ≤ (1048576 : Nat)))))) ∧
     (br (strEq (dtZ (Row.mk (List.take (enN (sub (bs s) (0 : Nat) (300 : Nat)) * (1 : Nat)) (List.drop (0 : Nat) (enC (sub (bs s) (0 : Nat) (300 : Nat))))) true (Ob.cells true))) (sub (bs s) (0 : Nat) (300 : Nat)))
      (br (deZ (Row.mk (List.take (enN (sub (bs s) (0 : Nat) (300 : Nat)) * (1 : Nat)) (List.drop (0 : Nat) (enC (sub (bs s) (0 : Nat) (300 : Nat))))) true (Ob.cells true)) == (0 : Int))
       (br (deZ (Row.mk (List.take (List.length l * (1 : Nat)) (List.drop (0 : Nat) (bCells l))) true (Ob.cells true)) != (0 : Int))
        (((True ∧ (True ∧ (True ∧ True)))) ∧
        ((true = true) ∧
        ((Eq (α := List Value) (bCells l) (bCells l)) ∧
        ((Plain (bCells l)) ∧
        True))))
        ((((True ∧ True) ∧ (True ∧ ((Plain (enC (dtZ (Row.mk (List.take (List.length l * (1 : Nat)) (List.drop (0 : Nat) (bCells l))) true (Ob.cells true)))) ∧ True) ∧ List.length (L (dtZ (Row.mk (List.take (List.length l * (1 : Nat)) (List.drop (0 : Nat) (bCells l))) true (Ob.cells true)))) ≤ (1048576 : Nat))))) ∧
        ((((((0 : Nat) + enN (dtZ (Row.mk (List.take (List.length l * (1 : Nat)) (List.drop (0 : Nat) (bCells l))) true (Ob.cells true))) * (1 : Nat) ≤ List.length (enC (dtZ (Row.mk (List.take (List.length l * (1 : Nat)) (List.drop (0 : Nat) (bCells l))) true (Ob.cells true)))) ∧ Plain (List.take (enN (dtZ (Row.mk (List.take (List.length l * (1 : Nat)) (List.drop (0 : Nat) (bCells l))) true (Ob.cells true))) * (1 : Nat)) (List.drop (0 : Nat) (enC (dtZ (Row.mk (List.take (List.length l * (1 : Nat)) (List.drop (0 : Nat) (bCells l))) true (Ob.cells true))))))) ∧ (((0 : Nat) + List.length l * (1 : Nat) ≤ List.length (bCells l) ∧ Plain (List.take (List.length l * (1 : Nat)) (List.drop (0 : Nat) (bCells l)))) ∧ True)) ∧ ((True ∧ (True ∧ True)) ∧ (True ∧ (IsB (Row.mk (List.take (enN (dtZ (Row.mk (List.take (List.length l * (1 : Nat)) (List.drop (0 : Nat) (bCells l))) true (Ob.cells true))) * (1 : Nat)) (List.drop (0 : Nat) (enC (dtZ (Row.mk (List.take (List.length l * (1 : Nat)) (List.drop (0 : Nat) (bCells l))) true (Ob.cells true)))))) true (Ob.cells true)) (enN (dtZ (Row.mk (List.take (List.length l * (1 : Nat)) (List.drop (0 : Nat) (bCells l))) true (Ob.cells true)))) ∧ (IsB (Row.mk (List.take (List.length l * (1 : Nat)) (List.drop (0 : Nat) (bCells l))) true (Ob.cells true)) (List.length l) ∧ enN (dtZ (Row.mk (List.take (List.length l * (1 : Nat)) (List.drop (0 : Nat) (bCells l))) true (Ob.cells true))) ≤ (9223372036854775807 : Nat))))))) ∧
        (br (smZ (Row.mk (List.take (enN (dtZ (Row.mk (List.take (List.length l * (1 : Nat)) (List.drop (0 : Nat) (bCells l))) true (Ob.cells true))) * (1 : Nat)) (List.drop (0 : Nat) (enC (dtZ (Row.mk (List.take (List.length l * (1 : Nat)) (List.drop (0 : Nat) (bCells l))) true (Ob.cells true)))))) true (Ob.cells true)) (Row.mk (List.take (List.length l * (1 : Nat)) (List.drop (0 : Nat) (bCells l))) true (Ob.cells true)))
         (((True ∧ (True ∧ (True ∧ True)))) ∧
         ((true = true) ∧
         ((Eq (α := List Value) (bCells l) (bCells l)) ∧
         ((Plain (bCells l)) ∧
         True))))
         ((true = false) ∧
         ((Eq (α := List Value) (bCells l) (bCells l)) ∧
         ((Plain (bCells l)) ∧
         True)))))))
       ((true = false) ∧
       ((Eq (α := List Value) (bCells l) (bCells l)) ∧
       ((Plain (bCells l)) ∧
       True))))
      ((true = false) ∧
      ((Eq (α := List Value) (bCells l) (bCells l)) ∧
      ((Plain (bCells l)) ∧
      True))))))))
    False)
   (br (decide (Int.ofNat (List.length l) > (300 : Int)))
    (br (decide ((0 : Int) ≤ (↑(0 : Nat) : Int) ∧ (↑(0 : Nat) : Int) ≤ (300 : Int) ∧ (300 : Int) ≤ (↑(List.length l) : Int)))
     ((((True ∧ True) ∧ (True ∧ ((Plain (enC (bs s)) ∧ True) ∧ List.length (L (bs s)) ≤ (1048576 : Nat))))) ∧
     ((((((0 : Nat) + enN (bs s) * (1 : Nat) ≤ List.length (enC (bs s)) ∧ Plain (List.take (enN (bs s) * (1 : Nat)) (List.drop (0 : Nat) (enC (bs s))))) ∧ True) ∧ ((True ∧ True) ∧ (True ∧ (IsB (Row.mk (List.take (enN (bs s) * (1 : Nat)) (List.drop (0 : Nat) (enC (bs s)))) true (Ob.cells true)) (enN (bs s)) ∧ enN (bs s) ≤ (1048576 : Nat)))))) ∧
     ((((((300 : Nat) ≤ List.length (bCells l) ∧ Plain (List.take (300 : Nat) (List.drop (0 : Nat) (bCells l)))) ∧ True) ∧ ((True ∧ True) ∧ (True ∧ (IsB (Row.mk (List.take (300 : Nat) (List.drop (0 : Nat) (bCells l))) true (Ob.cells true)) (300 : Nat) ∧ Int.toNat (300 : Int) - Int.toNat (↑(0 : Nat) : Int) ≤ (1048576 : Nat)))))) ∧
     (br (strEq (dtZ (Row.mk (List.take (enN (bs s) * (1 : Nat)) (List.drop (0 : Nat) (enC (bs s)))) true (Ob.cells true))) (bs s))
      (br (deZ (Row.mk (List.take (enN (bs s) * (1 : Nat)) (List.drop (0 : Nat) (enC (bs s)))) true (Ob.cells true)) == (0 : Int))
       (br (deZ (Row.mk (List.take (300 : Nat) (List.drop (0 : Nat) (bCells l))) true (Ob.cells true)) != (0 : Int))
        (((True ∧ (True ∧ (True ∧ True)))) ∧
        ((true = true) ∧
        ((Eq (α := List Value) (bCells l) (bCells l)) ∧
        ((Plain (bCells l)) ∧
        True))))
        ((((True ∧ True) ∧ (True ∧ ((Plain (enC (dtZ (Row.mk (List.take (300 : Nat) (List.drop (0 : Nat) (bCells l))) true (Ob.cells true)))) ∧ True) ∧ List.length (L (dtZ (Row.mk (List.take (300 : Nat) (List.drop (0 : Nat) (bCells l))) true (Ob.cells true)))) ≤ (1048576 : Nat))))) ∧
        ((((((0 : Nat) + enN (dtZ (Row.mk (List.take (300 : Nat) (List.drop (0 : Nat) (bCells l))) true (Ob.cells true))) * (1 : Nat) ≤ List.length (enC (dtZ (Row.mk (List.take (300 : Nat) (List.drop (0 : Nat) (bCells l))) true (Ob.cells true)))) ∧ Plain (List.take (enN (dtZ (Row.mk (List.take (300 : Nat) (List.drop (0 : Nat) (bCells l))) true (Ob.cells true))) * (1 : Nat)) (List.drop (0 : Nat) (enC (dtZ (Row.mk (List.take (300 : Nat) (List.drop (0 : Nat) (bCells l))) true (Ob.cells true))))))) ∧ (((300 : Nat) ≤ List.length (bCells l) ∧ Plain (List.take (300 : Nat) (List.drop (0 : Nat) (bCells l)))) ∧ True)) ∧ ((True ∧ (True ∧ True)) ∧ (True ∧ (IsB (Row.mk (List.take (enN (dtZ (Row.mk (List.take (300 : Nat) (List.drop (0 : Nat) (bCells l))) true (Ob.cells true))) * (1 : Nat)) (List.drop (0 : Nat) (enC (dtZ (Row.mk (List.take (300 : Nat) (List.drop (0 : Nat) (bCells l))) true (Ob.cells true)))))) true (Ob.cells true)) (enN (dtZ (Row.mk (List.take (300 : Nat) (List.drop (0 : Nat) (bCells l))) true (Ob.cells true)))) ∧ (IsB (Row.mk (List.take (300 : Nat) (List.drop (0 : Nat) (bCells l))) true (Ob.cells true)) (300 : Nat) ∧ enN (dtZ (Row.mk (List.take (300 : Nat) (List.drop (0 : Nat) (bCells l))) true (Ob.cells true))) ≤ (9223372036854775807 : Nat))))))) ∧
        (br (smZ (Row.mk (List.take (enN (dtZ (Row.mk (List.take (300 : Nat) (List.drop (0 : Nat) (bCells l))) true (Ob.cells true))) * (1 : Nat)) (List.drop (0 : Nat) (enC (dtZ (Row.mk (List.take (300 : Nat) (List.drop (0 : Nat) (bCells l))) true (Ob.cells true)))))) true (Ob.cells true)) (Row.mk (List.take (300 : Nat) (List.drop (0 : Nat) (bCells l))) true (Ob.cells true)))
         (((True ∧ (True ∧ (True ∧ True)))) ∧
         ((true = true) ∧
         ((Eq (α := List Value) (bCells l) (bCells l)) ∧
         ((Plain (bCells l)) ∧
         True))))
         ((true = false) ∧
         ((Eq (α := List Value) (bCells l) (bCells l)) ∧
         ((Plain (bCells l)) ∧
         True)))))))
       ((true = false) ∧
       ((Eq (α := List Value) (bCells l) (bCells l)) ∧
       ((Plain (bCells l)) ∧
       True))))
      ((true = false) ∧
      ((Eq (α := List Value) (bCells l) (bCells l)) ∧
      ((Plain (bCells l)) ∧
      True)))))))
     False)
    ((((True ∧ True) ∧ (True ∧ ((Plain (enC (bs s)) ∧ True) ∧ List.length (L (bs s)) ≤ (1048576 : Nat))))) ∧
    ((((((0 : Nat) + enN (bs s) * (1 : Nat) ≤ List.length (enC (bs s)) ∧ Plain (List.take (enN (bs s) * (1 : Nat)) (List.drop (0 : Nat) (enC (bs s))))) ∧ True) ∧ ((True ∧ True) ∧ (True ∧ (IsB (Row.mk (List.take (enN (bs s) * (1 : Nat)) (List.drop (0 : Nat) (enC (bs s)))) true (Ob.cells true)) (enN (bs s)) ∧ enN (bs s) ≤ (1048576 : Nat)))))) ∧
    ((((((0 : Nat) + List.length l * (1 : Nat) ≤ List.length (bCells l) ∧ Plain (List.take (List.length l * (1 : Nat)) (List.drop (0 : Nat) (bCells l)))) ∧ True) ∧ ((True ∧ True) ∧ (True ∧ (IsB (Row.mk (List.take (List.length l * (1 : Nat)) (List.drop (0 : Nat) (bCells l))) true (Ob.cells true)) (List.length l) ∧ List.length l ≤ (1048576 : Nat)))))) ∧
    (br (strEq (dtZ (Row.mk (List.take (enN (bs s) * (1 : Nat)) (List.drop (0 : Nat) (enC (bs s)))) true (Ob.cells true))) (bs s))
     (br (deZ (Row.mk (List.take (enN (bs s) * (1 : Nat)) (List.drop (0 : Nat) (enC (bs s)))) true (Ob.cells true)) == (0 : Int))
      (br (deZ (Row.mk (List.take (List.length l * (1 : Nat)) (List.drop (0 : Nat) (bCells l))) true (Ob.cells true)) != (0 : Int))
       (((True ∧ (True ∧ (True ∧ True)))) ∧
       ((true = true) ∧
       ((Eq (α := List Value) (bCells l) (bCells l)) ∧
       ((Plain (bCells l)) ∧
       True))))
       ((((True ∧ True) ∧ (True ∧ ((Plain (enC (dtZ (Row.mk (List.take (List.length l * (1 : Nat)) (List.drop (0 : Nat) (bCells l))) true (Ob.cells true)))) ∧ True) ∧ List.length (L (dtZ (Row.mk (List.take (List.length l * (1 : Nat)) (List.drop (0 : Nat) (bCells l))) true (Ob.cells true)))) ≤ (1048576 : Nat))))) ∧
       ((((((0 : Nat) + enN (dtZ (Row.mk (List.take (List.length l * (1 : Nat)) (List.drop (0 : Nat) (bCells l))) true (Ob.cells true))) * (1 : Nat) ≤ List.length (enC (dtZ (Row.mk (List.take (List.length l * (1 : Nat)) (List.drop (0 : Nat) (bCells l))) true (Ob.cells true)))) ∧ Plain (List.take (enN (dtZ (Row.mk (List.take (List.length l * (1 : Nat)) (List.drop (0 : Nat) (bCells l))) true (Ob.cells true))) * (1 : Nat)) (List.drop (0 : Nat) (enC (dtZ (Row.mk (List.take (List.length l * (1 : Nat)) (List.drop (0 : Nat) (bCells l))) true (Ob.cells true))))))) ∧ (((0 : Nat) + List.length l * (1 : Nat) ≤ List.length (bCells l) ∧ Plain (List.take (List.length l * (1 : Nat)) (List.drop (0 : Nat) (bCells l)))) ∧ True)) ∧ ((True ∧ (True ∧ True)) ∧ (True ∧ (IsB (Row.mk (List.take (enN (dtZ (Row.mk (List.take (List.length l * (1 : Nat)) (List.drop (0 : Nat) (bCells l))) true (Ob.cells true))) * (1 : Nat)) (List.drop (0 : Nat) (enC (dtZ (Row.mk (List.take (List.length l * (1 : Nat)) (List.drop (0 : Nat) (bCells l))) true (Ob.cells true)))))) true (Ob.cells true)) (enN (dtZ (Row.mk (List.take (List.length l * (1 : Nat)) (List.drop (0 : Nat) (bCells l))) true (Ob.cells true)))) ∧ (IsB (Row.mk (List.take (List.length l * (1 : Nat)) (List.drop (0 : Nat) (bCells l))) true (Ob.cells true)) (List.length l) ∧ enN (dtZ (Row.mk (List.take (List.length l * (1 : Nat)) (List.drop (0 : Nat) (bCells l))) true (Ob.cells true))) ≤ (9223372036854775807 : Nat))))))) ∧
       (br (smZ (Row.mk (List.take (enN (dtZ (Row.mk (List.take (List.length l * (1 : Nat)) (List.drop (0 : Nat) (bCells l))) true (Ob.cells true))) * (1 : Nat)) (List.drop (0 : Nat) (enC (dtZ (Row.mk (List.take (List.length l * (1 : Nat)) (List.drop (0 : Nat) (bCells l))) true (Ob.cells true)))))) true (Ob.cells true)) (Row.mk (List.take (List.length l * (1 : Nat)) (List.drop (0 : Nat) (bCells l))) true (Ob.cells true)))
        (((True ∧ (True ∧ (True ∧ True)))) ∧
        ((true = true) ∧
        ((Eq (α := List Value) (bCells l) (bCells l)) ∧
        ((Plain (bCells l)) ∧
        True))))
        ((true = false) ∧
        ((Eq (α := List Value) (bCells l) (bCells l)) ∧
        ((Plain (bCells l)) ∧
        True)))))))
      ((true = false) ∧
      ((Eq (α := List Value) (bCells l) (bCells l)) ∧
      ((Plain (bCells l)) ∧
      True))))
     ((true = false) ∧
     ((Eq (α := List Value) (bCells l) (bCells l)) ∧
     ((Plain (bCells l)) ∧
     True))))))))) := by kernel_rfl
theorem Jo_vc (s : List UInt8) (c : Int) : mcall EtH noM 60 8 [.string (bs s), .int .i64 c] ⟨mkR (nums 0 []), 0⟩ (retIs 0 (.bool true) []) =
  (br (decide (Int.ofNat (List.length (Array.toList (ByteArray.data (bs s)))) > (100 : Int)))
   (br (decide ((0 : Int) ≤ (↑(0 : Nat) : Int) ∧ (↑(0 : Nat) : Int) ≤ (100 : Int) ∧ (100 : Int) ≤ (↑(List.length (Array.toList (ByteArray.data (bs s)))) : Int)))
    ((((True ∧ True) ∧ (True ∧ ((Plain (enC (sub (bs s) (0 : Nat) (100 : Nat))) ∧ True) ∧ List.length (L (sub (bs s) (0 : Nat) (100 : Nat))) ≤ (1048576 : Nat))))) ∧
    ((((True ∧ (True ∧ (True ∧ True))) ∧ (True ∧ (True ∧ (I64 c ∧ ((-1000000000000 : Int) ≤ (0 : Int) ∧ (Int.ofNat (enN (sub (bs s) (0 : Nat) (100 : Nat))) ≤ (1000000000000 : Int) ∧ (0 : Int) ≤ Int.ofNat (enN (sub (bs s) (0 : Nat) (100 : Nat)))))))))) ∧
    (br (decide ((0 : Int) ≤ (↑(0 : Nat) : Int) ∧ (0 : Int) ≤ inside c (0 : Int) (Int.ofNat (enN (sub (bs s) (0 : Nat) (100 : Nat)))) ∧ inside c (0 : Int) (Int.ofNat (enN (sub (bs s) (0 : Nat) (100 : Nat)))) ≤ (↑(enN (sub (bs s) (0 : Nat) (100 : Nat))) : Int)))
     ((((((0 : Nat) + (Int.toNat (inside c (0 : Int) (Int.ofNat (enN (sub (bs s) (0 : Nat) (100 : Nat))))) - (0 : Nat)) * (1 : Nat) ≤ List.length (enC (sub (bs s) (0 : Nat) (100 : Nat))) ∧ Plain (List.take ((Int.toNat (inside c (0 : Int) (Int.ofNat (enN (sub (bs s) (0 : Nat) (100 : Nat))))) - (0 : Nat)) * (1 : Nat)) (List.drop (0 : Nat) (enC (sub (bs s) (0 : Nat) (100 : Nat)))))) ∧ True) ∧ ((True ∧ True) ∧ (True ∧ (IsB (Row.mk (List.take ((Int.toNat (inside c (0 : Int) (Int.ofNat (enN (sub (bs s) (0 : Nat) (100 : Nat))))) - (0 : Nat)) * (1 : Nat)) (List.drop (0 : Nat) (enC (sub (bs s) (0 : Nat) (100 : Nat))))) true (Ob.cells true)) (Int.toNat (inside c (0 : Int) (Int.ofNat (enN (sub (bs s) (0 : Nat) (100 : Nat))))) - (0 : Nat)) ∧ Int.toNat (inside c (0 : Int) (Int.ofNat (enN (sub (bs s) (0 : Nat) (100 : Nat))))) - (0 : Nat) ≤ (1048576 : Nat)))))) ∧
     (br (deZ (Row.mk (List.take ((Int.toNat (inside c (0 : Int) (Int.ofNat (enN (sub (bs s) (0 : Nat) (100 : Nat))))) - (0 : Nat)) * (1 : Nat)) (List.drop (0 : Nat) (enC (sub (bs s) (0 : Nat) (100 : Nat))))) true (Ob.cells true)) == (0 : Int))
      (br (decide (Int.ofNat (List.length (Array.toList (ByteArray.data (dtZ (Row.mk (List.take ((Int.toNat (inside c (0 : Int) (Int.ofNat (enN (sub (bs s) (0 : Nat) (100 : Nat))))) - (0 : Nat)) * (1 : Nat)) (List.drop (0 : Nat) (enC (sub (bs s) (0 : Nat) (100 : Nat))))) true (Ob.cells true)))))) > Int.ofNat (List.length (Array.toList (ByteArray.data (sub (bs s) (0 : Nat) (100 : Nat)))))))
       ((true = false) ∧
       True)
       (br (decide ((0 : Int) ≤ (↑(0 : Nat) : Int) ∧ (0 : Int) ≤ Int.ofNat (List.length (Array.toList (ByteArray.data (dtZ (Row.mk (List.take ((Int.toNat (inside c (0 : Int) (Int.ofNat (enN (sub (bs s) (0 : Nat) (100 : Nat))))) - (0 : Nat)) * (1 : Nat)) (List.drop (0 : Nat) (enC (sub (bs s) (0 : Nat) (100 : Nat))))) true (Ob.cells true)))))) ∧ Int.ofNat (List.length (Array.toList (ByteArray.data (dtZ (Row.mk (List.take ((Int.toNat (inside c (0 : Int) (Int.ofNat (enN (sub (bs s) (0 : Nat) (100 : Nat))))) - (0 : Nat)) * (1 : Nat)) (List.drop (0 : Nat) (enC (sub (bs s) (0 : Nat) (100 : Nat))))) true (Ob.cells true)))))) ≤ (↑(List.length (Array.toList (ByteArray.data (sub (bs s) (0 : Nat) (100 : Nat))))) : Int)))
        (br (!strEq (sub (sub (bs s) (0 : Nat) (100 : Nat)) (0 : Nat) (Int.toNat (Int.ofNat (List.length (Array.toList (ByteArray.data (dtZ (Row.mk (List.take ((Int.toNat (inside c (0 : Int) (Int.ofNat (enN (sub (bs s) (0 : Nat) (100 : Nat))))) - (0 : Nat)) * (1 : Nat)) (List.drop (0 : Nat) (enC (sub (bs s) (0 : Nat) (100 : Nat))))) true (Ob.cells true))))))))) (dtZ (Row.mk (List.take ((Int.toNat (inside c (0 : Int) (Int.ofNat (enN (sub (bs s) (0 : Nat) (100 : Nat))))) - (0 : Nat)) * (1 : Nat)) (List.drop (0 : Nat) (enC (sub (bs s) (0 : Nat) (100 : Nat))))) true (Ob.cells true))))
         ((true = false) ∧
         True)
         (br (decide ((0 : Nat) + enN (sub (bs s) (0 : Nat) (100 : Nat)) * (1 : Nat) ≤ List.length (enC (sub (bs s) (0 : Nat) (100 : Nat)))))
          (br (allOne (List.take (enN (sub (bs s) (0 : Nat) (100 : Nat)) * (1 : Nat)) (List.drop (0 : Nat) (enC (sub (bs s) (0 : Nat) (100 : Nat))))))
           (br (decide ((0 : Nat) + enN (sub (bs s) (0 : Nat) (100 : Nat)) ≤ (16777216 : Nat)))
            (br (decide ((0 : Nat) + enN (sub (bs s) (0 : Nat) (100 : Nat)) + (1 : Nat) ≤ (16777216 : Nat)))
             (br (decide ((0 : Nat) + ((0 : Nat) + enN (sub (bs s) (0 : Nat) (100 : Nat))) * (1 : Nat) ≤ List.length ([] ++ List.take (enN (sub (bs s) (0 : Nat) (100 : Nat)) * (1 : Nat)) (List.drop (0 : Nat) (enC (sub (bs s) (0 : Nat) (100 : Nat)))))))
              ((((((0 : Nat) + ((0 : Nat) + enN (sub (bs s) (0 : Nat) (100 : Nat)) + (1 : Nat)) * (1 : Nat) ≤ List.length (List.take (((0 : Nat) + enN (sub (bs s) (0 : Nat) (100 : Nat))) * (1 : Nat)) (List.drop (0 : Nat) ([] ++ List.take (enN (sub (bs s) (0 : Nat) (100 : Nat)) * (1 : Nat)) (List.drop (0 : Nat) (enC (sub (bs s) (0 : Nat) (100 : Nat)))))) ++ [Value.int IntKind.u8 (255 : Int)]) ∧ Plain (List.take (((0 : Nat) + enN (sub (bs s) (0 : Nat) (100 : Nat)) + (1 : Nat)) * (1 : Nat)) (List.drop (0 : Nat) (List.take (((0 : Nat) + enN (sub (bs s) (0 : Nat) (100 : Nat))) * (1 : Nat)) (List.drop (0 : Nat) ([] ++ List.take (enN (sub (bs s) (0 : Nat) (100 : Nat)) * (1 : Nat)) (List.drop (0 : Nat) (enC (sub (bs s) (0 : Nat) (100 : Nat)))))) ++ [Value.int IntKind.u8 (255 : Int)])))) ∧ True) ∧ ((True ∧ True) ∧ (True ∧ (IsB (Row.mk (List.take (((0 : Nat) + enN (sub (bs s) (0 : Nat) (100 : Nat)) + (1 : Nat)) * (1 : Nat)) (List.drop (0 : Nat) (List.take (((0 : Nat) + enN (sub (bs s) (0 : Nat) (100 : Nat))) * (1 : Nat)) (List.drop (0 : Nat) ([] ++ List.take (enN (sub (bs s) (0 : Nat) (100 : Nat)) * (1 : Nat)) (List.drop (0 : Nat) (enC (sub (bs s) (0 : Nat) (100 : Nat)))))) ++ [Value.int IntKind.u8 (255 : Int)]))) true (Ob.cells true)) ((0 : Nat) + enN (sub (bs s) (0 : Nat) (100 : Nat)) + (1 : Nat)) ∧ (0 : Nat) + enN (sub (bs s) (0 : Nat) (100 : Nat)) + (1 : Nat) ≤ (1048576 : Nat)))))) ∧
              (br (deZ (Row.mk (List.take (((0 : Nat) + enN (sub (bs s) (0 : Nat) (100 : Nat)) + (1 : Nat)) * (1 : Nat)) (List.drop (0 : Nat) (List.take (((0 : Nat) + enN (sub (bs s) (0 : Nat) (100 : Nat))) * (1 : Nat)) (List.drop (0 : Nat) ([] ++ List.take (enN (sub (bs s) (0 : Nat) (100 : Nat)) * (1 : Nat)) (List.drop (0 : Nat) (enC (sub (bs s) (0 : Nat) (100 : Nat)))))) ++ [Value.int IntKind.u8 (255 : Int)]))) true (Ob.cells true)) == (4 : Int))
               (((True ∧ (True ∧ (True ∧ True)))) ∧
               ((true = true) ∧
               True))
               ((true = false) ∧
               True)))
              False)
             False)
            False)
           False)
          False))
        False))
      (br (decide ((0 : Nat) + enN (sub (bs s) (0 : Nat) (100 : Nat)) * (1 : Nat) ≤ List.length (enC (sub (bs s) (0 : Nat) (100 : Nat)))))
       (br (allOne (List.take (enN (sub (bs s) (0 : Nat) (100 : Nat)) * (1 : Nat)) (List.drop (0 : Nat) (enC (sub (bs s) (0 : Nat) (100 : Nat))))))
        (br (decide ((0 : Nat) + enN (sub (bs s) (0 : Nat) (100 : Nat)) ≤ (16777216 : Nat)))
         (br (decide ((0 : Nat) + enN (sub (bs s) (0 : Nat) (100 : Nat)) + (1 : Nat) ≤ (16777216 : Nat)))
          (br (decide ((0 : Nat) + ((0 : Nat) + enN (sub (bs s) (0 : Nat) (100 : Nat))) * (1 : Nat) ≤ List.length ([] ++ List.take (enN (sub (bs s) (0 : Nat) (100 : Nat)) * (1 : Nat)) (List.drop (0 : Nat) (enC (sub (bs s) (0 : Nat) (100 : Nat)))))))
           ((((((0 : Nat) + ((0 : Nat) + enN (sub (bs s) (0 : Nat) (100 : Nat)) + (1 : Nat)) * (1 : Nat) ≤ List.length (List.take (((0 : Nat) + enN (sub (bs s) (0 : Nat) (100 : Nat))) * (1 : Nat)) (List.drop (0 : Nat) ([] ++ List.take (enN (sub (bs s) (0 : Nat) (100 : Nat)) * (1 : Nat)) (List.drop (0 : Nat) (enC (sub (bs s) (0 : Nat) (100 : Nat)))))) ++ [Value.int IntKind.u8 (255 : Int)]) ∧ Plain (List.take (((0 : Nat) + enN (sub (bs s) (0 : Nat) (100 : Nat)) + (1 : Nat)) * (1 : Nat)) (List.drop (0 : Nat) (List.take (((0 : Nat) + enN (sub (bs s) (0 : Nat) (100 : Nat))) * (1 : Nat)) (List.drop (0 : Nat) ([] ++ List.take (enN (sub (bs s) (0 : Nat) (100 : Nat)) * (1 : Nat)) (List.drop (0 : Nat) (enC (sub (bs s) (0 : Nat) (100 : Nat)))))) ++ [Value.int IntKind.u8 (255 : Int)])))) ∧ True) ∧ ((True ∧ True) ∧ (True ∧ (IsB (Row.mk (List.take (((0 : Nat) + enN (sub (bs s) (0 : Nat) (100 : Nat)) + (1 : Nat)) * (1 : Nat)) (List.drop (0 : Nat) (List.take (((0 : Nat) + enN (sub (bs s) (0 : Nat) (100 : Nat))) * (1 : Nat)) (List.drop (0 : Nat) ([] ++ List.take (enN (sub (bs s) (0 : Nat) (100 : Nat)) * (1 : Nat)) (List.drop (0 : Nat) (enC (sub (bs s) (0 : Nat) (100 : Nat)))))) ++ [Value.int IntKind.u8 (255 : Int)]))) true (Ob.cells true)) ((0 : Nat) + enN (sub (bs s) (0 : Nat) (100 : Nat)) + (1 : Nat)) ∧ (0 : Nat) + enN (sub (bs s) (0 : Nat) (100 : Nat)) + (1 : Nat) ≤ (1048576 : Nat)))))) ∧
           (br (deZ (Row.mk (List.take (((0 : Nat) + enN (sub (bs s) (0 : Nat) (100 : Nat)) + (1 : Nat)) * (1 : Nat)) (List.drop (0 : Nat) (List.take (((0 : Nat) + enN (sub (bs s) (0 : Nat) (100 : Nat))) * (1 : Nat)) (List.drop (0 : Nat) ([] ++ List.take (enN (sub (bs s) (0 : Nat) (100 : Nat)) * (1 : Nat)) (List.drop (0 : Nat) (enC (sub (bs s) (0 : Nat) (100 : Nat)))))) ++ [Value.int IntKind.u8 (255 : Int)]))) true (Ob.cells true)) == (4 : Int))
            (((True ∧ (True ∧ (True ∧ True)))) ∧
            ((true = true) ∧
            True))
            ((true = false) ∧
            True)))
           False)
          False)
         False)
        False)
       False)))
     False)))
    False)
   ((((True ∧ True) ∧ (True ∧ ((Plain (enC (bs s)) ∧ True) ∧ List.length (L (bs s)) ≤ (1048576 : Nat))))) ∧
   ((((True ∧ (True ∧ (True ∧ True))) ∧ (True ∧ (True ∧ (I64 c ∧ ((-1000000000000 : Int) ≤ (0 : Int) ∧ (Int.ofNat (enN (bs s)) ≤ (1000000000000 : Int) ∧ (0 : Int) ≤ Int.ofNat (enN (bs s))))))))) ∧
   (br (decide ((0 : Int) ≤ (↑(0 : Nat) : Int) ∧ (0 : Int) ≤ inside c (0 : Int) (Int.ofNat (enN (bs s))) ∧ inside c (0 : Int) (Int.ofNat (enN (bs s))) ≤ (↑(enN (bs s)) : Int)))
    ((((((0 : Nat) + (Int.toNat (inside c (0 : Int) (Int.ofNat (enN (bs s)))) - (0 : Nat)) * (1 : Nat) ≤ List.length (enC (bs s)) ∧ Plain (List.take ((Int.toNat (inside c (0 : Int) (Int.ofNat (enN (bs s)))) - (0 : Nat)) * (1 : Nat)) (List.drop (0 : Nat) (enC (bs s))))) ∧ True) ∧ ((True ∧ True) ∧ (True ∧ (IsB (Row.mk (List.take ((Int.toNat (inside c (0 : Int) (Int.ofNat (enN (bs s)))) - (0 : Nat)) * (1 : Nat)) (List.drop (0 : Nat) (enC (bs s)))) true (Ob.cells true)) (Int.toNat (inside c (0 : Int) (Int.ofNat (enN (bs s)))) - (0 : Nat)) ∧ Int.toNat (inside c (0 : Int) (Int.ofNat (enN (bs s)))) - (0 : Nat) ≤ (1048576 : Nat)))))) ∧
    (br (deZ (Row.mk (List.take ((Int.toNat (inside c (0 : Int) (Int.ofNat (enN (bs s)))) - (0 : Nat)) * (1 : Nat)) (List.drop (0 : Nat) (enC (bs s)))) true (Ob.cells true)) == (0 : Int))
     (br (decide (Int.ofNat (List.length (Array.toList (ByteArray.data (dtZ (Row.mk (List.take ((Int.toNat (inside c (0 : Int) (Int.ofNat (enN (bs s)))) - (0 : Nat)) * (1 : Nat)) (List.drop (0 : Nat) (enC (bs s)))) true (Ob.cells true)))))) > Int.ofNat (List.length (Array.toList (ByteArray.data (bs s))))))
      ((true = false) ∧
      True)
      (br (decide ((0 : Int) ≤ (↑(0 : Nat) : Int) ∧ (0 : Int) ≤ Int.ofNat (List.length (Array.toList (ByteArray.data (dtZ (Row.mk (List.take ((Int.toNat (inside c (0 : Int) (Int.ofNat (enN (bs s)))) - (0 : Nat)) * (1 : Nat)) (List.drop (0 : Nat) (enC (bs s)))) true (Ob.cells true)))))) ∧ Int.ofNat (List.length (Array.toList (ByteArray.data (dtZ (Row.mk (List.take ((Int.toNat (inside c (0 : Int) (Int.ofNat (enN (bs s)))) - (0 : Nat)) * (1 : Nat)) (List.drop (0 : Nat) (enC (bs s)))) true (Ob.cells true)))))) ≤ (↑(List.length (Array.toList (ByteArray.data (bs s)))) : Int)))
       (br (!strEq (sub (bs s) (0 : Nat) (Int.toNat (Int.ofNat (List.length (Array.toList (ByteArray.data (dtZ (Row.mk (List.take ((Int.toNat (inside c (0 : Int) (Int.ofNat (enN (bs s)))) - (0 : Nat)) * (1 : Nat)) (List.drop (0 : Nat) (enC (bs s)))) true (Ob.cells true))))))))) (dtZ (Row.mk (List.take ((Int.toNat (inside c (0 : Int) (Int.ofNat (enN (bs s)))) - (0 : Nat)) * (1 : Nat)) (List.drop (0 : Nat) (enC (bs s)))) true (Ob.cells true))))
        ((true = false) ∧
        True)
        (br (decide ((0 : Nat) + enN (bs s) * (1 : Nat) ≤ List.length (enC (bs s))))
         (br (allOne (List.take (enN (bs s) * (1 : Nat)) (List.drop (0 : Nat) (enC (bs s)))))
          (br (decide ((0 : Nat) + enN (bs s) ≤ (16777216 : Nat)))
           (br (decide ((0 : Nat) + enN (bs s) + (1 : Nat) ≤ (16777216 : Nat)))
            (br (decide ((0 : Nat) + ((0 : Nat) + enN (bs s)) * (1 : Nat) ≤ List.length ([] ++ List.take (enN (bs s) * (1 : Nat)) (List.drop (0 : Nat) (enC (bs s))))))
             ((((((0 : Nat) + ((0 : Nat) + enN (bs s) + (1 : Nat)) * (1 : Nat) ≤ List.length (List.take (((0 : Nat) + enN (bs s)) * (1 : Nat)) (List.drop (0 : Nat) ([] ++ List.take (enN (bs s) * (1 : Nat)) (List.drop (0 : Nat) (enC (bs s))))) ++ [Value.int IntKind.u8 (255 : Int)]) ∧ Plain (List.take (((0 : Nat) + enN (bs s) + (1 : Nat)) * (1 : Nat)) (List.drop (0 : Nat) (List.take (((0 : Nat) + enN (bs s)) * (1 : Nat)) (List.drop (0 : Nat) ([] ++ List.take (enN (bs s) * (1 : Nat)) (List.drop (0 : Nat) (enC (bs s))))) ++ [Value.int IntKind.u8 (255 : Int)])))) ∧ True) ∧ ((True ∧ True) ∧ (True ∧ (IsB (Row.mk (List.take (((0 : Nat) + enN (bs s) + (1 : Nat)) * (1 : Nat)) (List.drop (0 : Nat) (List.take (((0 : Nat) + enN (bs s)) * (1 : Nat)) (List.drop (0 : Nat) ([] ++ List.take (enN (bs s) * (1 : Nat)) (List.drop (0 : Nat) (enC (bs s))))) ++ [Value.int IntKind.u8 (255 : Int)]))) true (Ob.cells true)) ((0 : Nat) + enN (bs s) + (1 : Nat)) ∧ (0 : Nat) + enN (bs s) + (1 : Nat) ≤ (1048576 : Nat)))))) ∧
             (br (deZ (Row.mk (List.take (((0 : Nat) + enN (bs s) + (1 : Nat)) * (1 : Nat)) (List.drop (0 : Nat) (List.take (((0 : Nat) + enN (bs s)) * (1 : Nat)) (List.drop (0 : Nat) ([] ++ List.take (enN (bs s) * (1 : Nat)) (List.drop (0 : Nat) (enC (bs s))))) ++ [Value.int IntKind.u8 (255 : Int)]))) true (Ob.cells true)) == (4 : Int))
              (((True ∧ (True ∧ (True ∧ True)))) ∧
              ((true = true) ∧
              True))
              ((true = false) ∧
              True)))
             False)
            False)
           False)
          False)
         False))
       False))
     (br (decide ((0 : Nat) + enN (bs s) * (1 : Nat) ≤ List.length (enC (bs s))))
      (br (allOne (List.take (enN (bs s) * (1 : Nat)) (List.drop (0 : Nat) (enC (bs s)))))
       (br (decide ((0 : Nat) + enN (bs s) ≤ (16777216 : Nat)))
        (br (decide ((0 : Nat) + enN (bs s) + (1 : Nat) ≤ (16777216 : Nat)))
         (br (decide ((0 : Nat) + ((0 : Nat) + enN (bs s)) * (1 : Nat) ≤ List.length ([] ++ List.take (enN (bs s) * (1 : Nat)) (List.drop (0 : Nat) (enC (bs s))))))
          ((((((0 : Nat) + ((0 : Nat) + enN (bs s) + (1 : Nat)) * (1 : Nat) ≤ List.length (List.take (((0 : Nat) + enN (bs s)) * (1 : Nat)) (List.drop (0 : Nat) ([] ++ List.take (enN (bs s) * (1 : Nat)) (List.drop (0 : Nat) (enC (bs s))))) ++ [Value.int IntKind.u8 (255 : Int)]) ∧ Plain (List.take (((0 : Nat) + enN (bs s) + (1 : Nat)) * (1 : Nat)) (List.drop (0 : Nat) (List.take (((0 : Nat) + enN (bs s)) * (1 : Nat)) (List.drop (0 : Nat) ([] ++ List.take (enN (bs s) * (1 : Nat)) (List.drop (0 : Nat) (enC (bs s))))) ++ [Value.int IntKind.u8 (255 : Int)])))) ∧ True) ∧ ((True ∧ True) ∧ (True ∧ (IsB (Row.mk (List.take (((0 : Nat) + enN (bs s) + (1 : Nat)) * (1 : Nat)) (List.drop (0 : Nat) (List.take (((0 : Nat) + enN (bs s)) * (1 : Nat)) (List.drop (0 : Nat) ([] ++ List.take (enN (bs s) * (1 : Nat)) (List.drop (0 : Nat) (enC (bs s))))) ++ [Value.int IntKind.u8 (255 : Int)]))) true (Ob.cells true)) ((0 : Nat) + enN (bs s) + (1 : Nat)) ∧ (0 : Nat) + enN (bs s) + (1 : Nat) ≤ (1048576 : Nat)))))) ∧
          (br (deZ (Row.mk (List.take (((0 : Nat) + enN (bs s) + (1 : Nat)) * (1 : Nat)) (List.drop (0 : Nat) (List.take (((0 : Nat) + enN (bs s)) * (1 : Nat)) (List.drop (0 : Nat) ([] ++ List.take (enN (bs s) * (1 : Nat)) (List.drop (0 : Nat) (enC (bs s))))) ++ [Value.int IntKind.u8 (255 : Int)]))) true (Ob.cells true)) == (4 : Int))
           (((True ∧ (True ∧ (True ∧ True)))) ∧
           ((true = true) ∧
           True))
           ((true = false) ∧
           True)))
          False)
         False)
        False)
       False)
      False)))
    False)))) := by kernel_rfl
theorem eRunsH_ok : EntOk Try.prog eRunsH := entC_ok (by
  intro a rows p v news h hp
  split at h <;> simp only [Option.some.injEq, Prod.mk.injEq, reduceCtorEq] at h
  obtain ⟨rfl, rfl, rfl⟩ := h
  exact runs_con)
theorem eWiH_ok : EntOk Try.prog eWiH := entC_ok (by
  intro a rows p v news h hp
  split at h <;> simp only [Option.some.injEq, Prod.mk.injEq, reduceCtorEq] at h
  obtain ⟨rfl, rfl, rfl⟩ := h
  exact Go.Proofs.Ytbpeollodpjicaa.tk.within_con _ _ _ hp.1 hp.2.1 hp.2.2.1 hp.2.2.2)
theorem tH_ok : ∀ x ∈ tH, EntOk Try.prog x := all_cons eCode_ok (all_cons eSize_ok (all_cons eEnc_ok (all_cons eDec_ok (all_cons eSame_ok (all_cons eRunsH_ok (all_cons eWiH_ok (all_nil)))))))
theorem cdI_nat (k : Nat) (h : k < 257) : cdI (k : Int) = ((codeN k : Nat) : Int) := by unfold cdI; rw [if_pos (by omega)]; simp
theorem sub0 (l : List UInt8) (n : Nat) : sub (bs l) 0 n = bs (l.take n) := Eq.trans rfl rfl
theorem beq_iff {A B C D : Int} (h : A = B ↔ C = D) : ((A == B) == (C == D)) = true := by
  rw [beq_iff_eq, Bool.eq_iff_iff, beq_iff_eq, beq_iff_eq]; exact h
theorem dec_iff {P Q : Prop} {d : Decidable P} {e : Decidable Q} (h : P ↔ Q) : (@decide P d == @decide Q e) = true := by
  rw [beq_iff_eq, decide_eq_decide]; exact h
theorem tk255 (e : List UInt8) : List.take (e.length + 1) (List.take e.length ([] ++ bCells e) ++ [Value.int .u8 255]) = bCells (e ++ [255]) := by
  have h : List.take e.length ([] ++ bCells e) = bCells e := by
    rw [List.nil_append]; exact List.take_of_length_le (by rw [bCells_len]; exact Nat.le_refl _)
  rw [h, ← bCells_app]
  exact List.take_of_length_le (by rw [List.length_append, bCells_len]; exact Nat.le_refl _)
theorem ap_law (a b : Int) (ha : I64 a) (hb : I64 b) : Con Try.prog 7 [.int .i64 a, .int .i64 b] [] (.bool true) [] := by
  refine con_vc (E := EtH) mixed (calls_envT tH_ok) (lok_envT _ _) (M := noM) lm_none (Ap_vc a b) ?_
  simp only [ofNat_eq, toNat_cast, Nat.zero_add, Nat.add_zero, Nat.mul_one, List.drop_zero, bCells_len, bCells_drop, bCells_take, bCells_app, bCells_one, bCells_plain, List.length_replicate, List.length_append, List.length_take, List.length_drop, List.take_length, and_true, true_and, and_self, decide_true, List.length_nil, List.length_cons, Nat.sub_zero, dB_mk, dB_ro, List.take_zero, z_cdZ, z_lenI]
  obtain ⟨a1, a2⟩ := Go.Proofs.Ytbpeollodpjicaa.tk.inside_in a 0 256 (by omega)
  obtain ⟨b1, b2⟩ := Go.Proofs.Ytbpeollodpjicaa.tk.inside_in b 0 256 (by omega)
  refine ⟨⟨ha, by omega, by omega, by omega⟩, ⟨hb, by omega, by omega, by omega⟩, ?_⟩
  generalize Go.Proofs.Ytbpeollodpjicaa.tk.inside a 0 256 = x at *
  generalize Go.Proofs.Ytbpeollodpjicaa.tk.inside b 0 256 = y at *
  obtain ⟨x, rfl⟩ : ∃ k : Nat, x = (k : Nat) := ⟨x.toNat, by omega⟩
  obtain ⟨y, rfl⟩ : ∃ k : Nat, y = (k : Nat) := ⟨y.toNat, by omega⟩
  have hx : x < 257 := by omega
  have hy : y < 257 := by omega
  rw [hLenI_nat x hx, hLenI_nat y hy, cdI_nat x hx, cdI_nat y hy]
  obtain ⟨n1, n2⟩ := len_bd x hx
  obtain ⟨m1, m2⟩ := len_bd y hy
  have hcx := code_lt x hx
  have hcy := code_lt y hy
  have d0 : ∀ z, z < 257 → ishr .i64 ((codeN z : Nat) : Int) ((hLen z : Nat) : Int) = 0 := fun z hz => by
    have := len_bd z hz
    rw [ishr_nat (by omega), Nat.div_eq_of_lt (code_lt z hz)]; rfl
  rw [d0 x hx, d0 y hy]
  refine br_nif (by omega) fun _ => br_nif (by omega) fun _ => br_nif (by omega) fun _ => br_nif (by omega) fun _ => br_nif (by omega) fun _ => br_dec (by omega) (br_nb rfl (br_nif (by omega) fun _ => br_dec (by omega) (br_nb rfl ?_)))
  rcases Nat.lt_trichotomy (hLen x) (hLen y) with h | h | h
  · have k1 : (if ((hLen y : Nat) : Int) < ((hLen x : Nat) : Int) then ((hLen y : Nat) : Int) else ((hLen x : Nat) : Int)) = ((hLen x : Nat) : Int) := if_neg (by omega)
    have w1 : IntKind.i64.wrap (((hLen x : Nat) : Int) - ((hLen x : Nat) : Int)) = ((0 : Nat) : Int) := by rw [wr64_id (by unfold I64; omega)]; omega
    have w2 : IntKind.i64.wrap (((hLen y : Nat) : Int) - ((hLen x : Nat) : Int)) = ((hLen y - hLen x : Nat) : Int) := by rw [wr64_id (by unfold I64; omega)]; omega
    rw [k1, w1, w2, ishr_nat (by omega), ishr_nat (by omega)]
    have hf := code_far hx hy h
    have hp : 0 < 2 ^ (hLen y - hLen x) := Nat.two_pow_pos _
    have hd := (Nat.le_div_iff_mul_le hp).2 hf
    refine br_dec (by omega) (br_dec (by omega) (br_b (beq_iff ⟨fun e => ?_, fun e => ?_⟩) trivial))
    · exfalso; have : x = y := by omega
      subst this; omega
    · exfalso; rw [Nat.pow_zero, Nat.div_one] at e; omega
  · have k1 : (if ((hLen y : Nat) : Int) < ((hLen x : Nat) : Int) then ((hLen y : Nat) : Int) else ((hLen x : Nat) : Int)) = ((hLen x : Nat) : Int) := if_neg (by omega)
    have w1 : IntKind.i64.wrap (((hLen x : Nat) : Int) - ((hLen x : Nat) : Int)) = ((0 : Nat) : Int) := by rw [wr64_id (by unfold I64; omega)]; omega
    have w2 : IntKind.i64.wrap (((hLen y : Nat) : Int) - ((hLen x : Nat) : Int)) = ((0 : Nat) : Int) := by rw [wr64_id (by unfold I64; omega)]; omega
    rw [k1, w1, w2, ishr_nat (by omega), ishr_nat (by omega), Nat.pow_zero, Nat.div_one, Nat.div_one]
    refine br_dec (by omega) (br_dec (by omega) (br_b (beq_iff ⟨fun e => ?_, fun e => ?_⟩) trivial))
    · have : x = y := by omega
      subst this; rfl
    · rcases Nat.lt_trichotomy x y with q | q | q
      · have := code_lt_of h q; omega
      · subst q; rfl
      · have := code_lt_of h.symm q; omega
  · have k1 : (if ((hLen y : Nat) : Int) < ((hLen x : Nat) : Int) then ((hLen y : Nat) : Int) else ((hLen x : Nat) : Int)) = ((hLen y : Nat) : Int) := if_pos (by omega)
    have w1 : IntKind.i64.wrap (((hLen x : Nat) : Int) - ((hLen y : Nat) : Int)) = ((hLen x - hLen y : Nat) : Int) := by rw [wr64_id (by unfold I64; omega)]; omega
    have w2 : IntKind.i64.wrap (((hLen y : Nat) : Int) - ((hLen y : Nat) : Int)) = ((0 : Nat) : Int) := by rw [wr64_id (by unfold I64; omega)]; omega
    rw [k1, w1, w2, ishr_nat (by omega), ishr_nat (by omega)]
    have hf := code_far hy hx h
    have hp : 0 < 2 ^ (hLen x - hLen y) := Nat.two_pow_pos _
    have hd := (Nat.le_div_iff_mul_le hp).2 hf
    refine br_dec (by omega) (br_dec (by omega) (br_b (beq_iff ⟨fun e => ?_, fun e => ?_⟩) trivial))
    · exfalso; have : x = y := by omega
      subst this; omega
    · exfalso; rw [Nat.pow_zero, Nat.div_one] at e; omega
theorem ri_law (a b : Int) (ha : I64 a) (hb : I64 b) : Con Try.prog 9 [.int .i64 a, .int .i64 b] [] (.bool true) [] := by
  refine con_vc (E := EtH) mixed (calls_envT tH_ok) (lok_envT _ _) (M := noM) lm_none (Ri_vc a b) ?_
  simp only [ofNat_eq, toNat_cast, Nat.zero_add, Nat.add_zero, Nat.mul_one, List.drop_zero, bCells_len, bCells_drop, bCells_take, bCells_app, bCells_one, bCells_plain, List.length_replicate, List.length_append, List.length_take, List.length_drop, List.take_length, and_true, true_and, and_self, decide_true, List.length_nil, List.length_cons, Nat.sub_zero, dB_mk, dB_ro, List.take_zero, z_cdZ, z_lenI]
  obtain ⟨a1, a2⟩ := Go.Proofs.Ytbpeollodpjicaa.tk.inside_in a 0 256 (by omega)
  obtain ⟨b1, b2⟩ := Go.Proofs.Ytbpeollodpjicaa.tk.inside_in b 0 256 (by omega)
  refine ⟨⟨ha, by omega, by omega, by omega⟩, ⟨hb, by omega, by omega, by omega⟩, ?_⟩
  generalize Go.Proofs.Ytbpeollodpjicaa.tk.inside a 0 256 = x at *
  generalize Go.Proofs.Ytbpeollodpjicaa.tk.inside b 0 256 = y at *
  obtain ⟨x, rfl⟩ : ∃ k : Nat, x = (k : Nat) := ⟨x.toNat, by omega⟩
  obtain ⟨y, rfl⟩ : ∃ k : Nat, y = (k : Nat) := ⟨y.toNat, by omega⟩
  have hx : x < 257 := by omega
  have hy : y < 257 := by omega
  rw [hLenI_nat x hx, hLenI_nat y hy, cdI_nat x hx, cdI_nat y hy]
  obtain ⟨n1, n2⟩ := len_bd x hx
  obtain ⟨m1, m2⟩ := len_bd y hy
  have hcx := code_lt x hx
  have hcy := code_lt y hy
  have k1 : (if (30 : Int) < ((hLen x : Nat) : Int) then 30 else ((hLen x : Nat) : Int)) = ((hLen x : Nat) : Int) := if_neg (by omega)
  have k2 : (if (30 : Int) < ((hLen y : Nat) : Int) then 30 else ((hLen y : Nat) : Int)) = ((hLen y : Nat) : Int) := if_neg (by omega)
  have w1 : IntKind.i64.wrap (30 - ((hLen x : Nat) : Int)) = ((30 - hLen x : Nat) : Int) := by rw [wr64_id (by unfold I64; omega)]; omega
  have w2 : IntKind.i64.wrap (30 - ((hLen y : Nat) : Int)) = ((30 - hLen y : Nat) : Int) := by rw [wr64_id (by unfold I64; omega)]; omega
  rw [k1, k2, w1, w2]
  have big : ∀ z, z < 257 → (codeN z + 1) * 2 ^ (30 - hLen z) ≤ 1073741824 := fun z hz => by
    have h1 := len_bd z hz
    have h2 := Nat.mul_le_mul_right (2 ^ (30 - hLen z)) (show codeN z + 1 ≤ 2 ^ hLen z from code_lt z hz)
    rw [← Nat.pow_add, show hLen z + (30 - hLen z) = 30 by omega] at h2
    exact h2
  have sh : ∀ z, z < 257 → ishl .i64 ((codeN z : Nat) : Int) ((30 - hLen z : Nat) : Int) = ((codeN z * 2 ^ (30 - hLen z) : Nat) : Int) := fun z hz => by
    have h1 := len_bd z hz
    have h2 := big z hz
    rw [Nat.add_mul] at h2
    exact ishl_nat (by omega) (by omega)
  have far : ∀ u v, u < 257 → v < 257 → hLen u < hLen v → codeN u * 2 ^ (30 - hLen u) < codeN v * 2 ^ (30 - hLen v) := fun u v hu hv h => by
    have h1 := len_bd u hu
    have h2 := len_bd v hv
    have h3 := Nat.mul_le_mul_right (2 ^ (30 - hLen v)) (code_far hu hv h)
    rw [Nat.mul_assoc, ← Nat.pow_add, show hLen v - hLen u + (30 - hLen v) = 30 - hLen u by omega, Nat.add_mul] at h3
    have hp : 0 < 2 ^ (30 - hLen u) := Nat.two_pow_pos _
    omega
  refine br_intro (fun h => br_b (dec_iff ?_) trivial) (fun h => br_dec (by omega) (br_dec (by omega) (br_b (dec_iff ?_) trivial)))
  · have h : hLen x = hLen y := by have := eq_of_beq h; omega
    constructor
    · intro q; have := code_lt_of h (show x < y by omega); omega
    · intro q
      rcases Nat.lt_trichotomy x y with e | e | e
      · omega
      · subst e; omega
      · have := code_lt_of h.symm e; omega
  · have h : hLen x ≠ hLen y := by intro e; rw [e] at h; simp at h
    rw [sh x hx, sh y hy]
    constructor
    · intro q; have := far x y hx hy (by omega); omega
    · intro q
      apply Decidable.byContradiction
      intro e
      have := far y x hy hx (by omega); omega
theorem sz_law (s t : ByteArray) (hs : s.size ≤ maxLen) (ht : t.size ≤ maxLen) : Con Try.prog 10 [.string s, .string t] [] (.bool true) [] := by
  obtain ⟨s, rfl⟩ : ∃ l, s = bs l := ⟨L s, rfl⟩
  obtain ⟨t, rfl⟩ : ∃ l, t = bs l := ⟨L t, rfl⟩
  refine con_vc (E := EtH) mixed (calls_envT tH_ok) (lok_envT _ _) (M := noM) lm_none (Sz2_vc s t) ?_
  simp only [ofNat_eq, toNat_cast, Nat.zero_add, Nat.add_zero, Nat.mul_one, List.drop_zero, bCells_len, bCells_drop, bCells_take, bCells_app, bCells_one, bCells_plain, List.length_replicate, List.length_append, List.length_take, List.length_drop, List.take_length, and_true, true_and, and_self, decide_true, List.length_nil, List.length_cons, Nat.sub_zero, dB_mk, dB_ro, List.take_zero, z_szZ]
  have e1 : (bs s).data.toList.length = s.length := bs_len s
  have e2 : (bs t).data.toList.length = t.length := bs_len t
  have e3 : (⟨#[]⟩ : ByteArray) = bs [] := rfl
  rw [e1, e2, bs_app, L_bs, L_bs, L_bs, e3, strEq_bs, szN_app, List.length_append]
  refine br_if (fun _ => trivial) (fun h1 => br_if (fun _ => trivial) (fun h2 => ⟨by omega, by omega, br_dec (by omega) ⟨by omega, ?_⟩⟩))
  have l1 := szN_le s
  have l2 := szN_le t
  have w1 : IntKind.i64.wrap ((((szN s + 7) / 8 : Nat) : Int) + (((szN t + 7) / 8 : Nat) : Int)) = (((szN s + 7) / 8 + (szN t + 7) / 8 : Nat) : Int) := w_add _ _ (by omega)
  rw [w1, wr64_id (n := (((szN s + 7) / 8 + (szN t + 7) / 8 : Nat) : Int) - 1) (by unfold I64; omega)]
  refine br_dec (by omega) (br_dec (by omega) (br_dec (by omega) (br_b ?_ trivial)))
  have l3 : s ≠ [] → 5 ≤ szN s := fun hn => by
    cases s with
    | nil => exact absurd rfl hn
    | cons c r =>
      have h : szN (c :: r) = hLen c.toNat + szN r := by unfold szN; rw [List.map_cons, List.sum_cons]
      have hb := len_bd c.toNat (by have := c.toNat_lt; omega)
      omega
  rw [beq_iff_eq, Bool.eq_iff_iff, beq_iff_eq, decide_eq_true_eq]
  constructor
  · intro h
    apply Decidable.byContradiction
    intro hn
    have := l3 hn
    omega
  · intro h; subst h; rfl
theorem bk_law (s : ByteArray) (l : List UInt8) (hs : s.size ≤ maxLen) (hl : l.length ≤ maxLen) : Con Try.prog 6 [.string s, slc 0 l.length] [bRo l] (.bool true) [bRo l] := by
  obtain ⟨s, rfl⟩ : ∃ l, s = bs l := ⟨L s, rfl⟩
  refine con_vc (E := EtH) mixed (calls_envT tH_ok) (lok_envT _ _) (M := noM) lm_none (Bk_vc s l) ?_
  simp only [ofNat_eq, toNat_cast, Nat.zero_add, Nat.add_zero, Nat.mul_one, List.drop_zero, bCells_len, bCells_drop, bCells_take, bCells_app, bCells_one, bCells_plain, List.length_replicate, List.length_append, List.length_take, List.length_drop, List.take_length, and_true, true_and, and_self, decide_true, List.length_nil, List.length_cons, Nat.sub_zero, dB_mk, dB_ro, List.take_zero, z_enN, z_enC, z_dtZ, z_deZ, z_smZ]
  have e1 : (bs s).data.toList.length = s.length := bs_len s
  simp only [e1, sub0, L_bs]
  have core : ∀ q u : List UInt8, q.length ≤ 300 → u.length ≤ 300 → ∀ N, N = u.length → ∀ M : Prop, M →
      (q.length ≤ 1048576 ∧ ((encL q).length ≤ (encL q).length ∧ IsB ⟨bCells (encL q), true, .cells true⟩ (encL q).length ∧ (encL q).length ≤ 1048576) ∧ (M ∧ IsB ⟨bCells u, true, .cells true⟩ N ∧ N ≤ 1048576) ∧
        br (strEq (bs (decT (encL q))) (bs q)) (br (decE (encL q) == 0) (br (decE u != 0) True ((decT u).length ≤ 1048576 ∧ (((encL (decT u)).length ≤ (encL (decT u)).length ∧ M) ∧ IsB ⟨bCells (encL (decT u)), true, .cells true⟩ (encL (decT u)).length ∧ IsB ⟨bCells u, true, .cells true⟩ N ∧ (encL (decT u)).length ≤ 9223372036854775807) ∧ br (decide (encL (decT u) = u)) True (true = false))) (true = false)) (true = false)) := by
    intro q u hq hu N hN M hM
    have h1 := encL_len q
    have h2 := decT_len u
    have h3 := encL_len (decT u)
    have d1 := dec_back q
    have t1 : decT (encL q) = q := by unfold decT; rw [d1]; rfl
    have t2 : decE (encL q) = 0 := by unfold decE; rw [d1]; rfl
    rw [t1, t2, strEq_bs]
    refine ⟨by omega, ⟨Nat.le_refl _, isB_mk _ _ rfl, by omega⟩, ⟨hM, isB_mk _ _ hN, by omega⟩, br_b (by simp) (br_b rfl (br_intro (fun _ => trivial) (fun h => ⟨by omega, ⟨⟨Nat.le_refl _, hM⟩, isB_mk _ _ rfl, isB_mk _ _ hN, by omega⟩, br_b (decide_eq_true ?_) trivial⟩)))⟩
    cases hd : decR u with
    | none => unfold decE at h; rw [hd] at h; simp at h
    | some v =>
      have : decT u = v := by unfold decT; rw [hd]; rfl
      rw [this]; exact enc_back hd
  have t3 : ∀ x : List UInt8, 300 < x.length → (x.take 300).length = 300 := fun x h => by rw [List.length_take]; omega
  refine br_if (fun h1 => br_dec (by omega) ?_) (fun h1 => ?_)
  · have hq := t3 s (by omega)
    refine br_if (fun h2 => br_dec (by omega) ?_) (fun h2 => ?_)
    · have hu := t3 l (by omega)
      exact core _ _ (by omega) (by omega) 300 hu.symm _ (by omega)
    · exact core _ _ (by omega) (by omega) _ rfl _ (Nat.le_refl _)
  · refine br_if (fun h2 => br_dec (by omega) ?_) (fun h2 => ?_)
    · have hu := t3 l (by omega)
      exact core _ _ (by omega) (by omega) 300 hu.symm _ (by omega)
    · exact core _ _ (by omega) (by omega) _ rfl _ (Nat.le_refl _)
theorem jo_law (s : ByteArray) (c : Int) (hs : s.size ≤ maxLen) (hc : I64 c) : Con Try.prog 8 [.string s, .int .i64 c] [] (.bool true) [] := by
  obtain ⟨s, rfl⟩ : ∃ l, s = bs l := ⟨L s, rfl⟩
  refine con_vc (E := EtH) mixed (calls_envT tH_ok) (lok_envT _ _) (M := noM) lm_none (Jo_vc s c) ?_
  simp only [ofNat_eq, toNat_cast, Nat.zero_add, Nat.add_zero, Nat.mul_one, List.drop_zero, bCells_len, bCells_drop, bCells_take, bCells_app, bCells_one, bCells_plain, List.length_replicate, List.length_append, List.length_take, List.length_drop, List.take_length, and_true, true_and, and_self, decide_true, List.length_nil, List.length_cons, Nat.sub_zero, dB_mk, dB_ro, List.take_zero, z_enN, z_enC, z_dtZ, z_deZ, z_smZ]
  have e1 : (bs s).data.toList.length = s.length := bs_len s
  simp only [e1, sub0, L_bs]
  refine br_if (fun h => br_dec (by omega) ?_) (fun h => ?_)
  · have hq : (s.take 100).length = 100 := by rw [List.length_take]; omega
    have hq : (s.take 100).length ≤ 100 := by omega
    generalize s.take 100 = q at *
    have h1 := encL_len q
    obtain ⟨i1, i2⟩ := Go.Proofs.Ytbpeollodpjicaa.tk.inside_in c 0 ((encL q).length : Int) (by omega)
    obtain ⟨k, hk⟩ : ∃ k : Nat, Go.Proofs.Ytbpeollodpjicaa.tk.inside c 0 ((encL q).length : Int) = (k : Int) := ⟨(Go.Proofs.Ytbpeollodpjicaa.tk.inside c 0 ((encL q).length : Int)).toNat, by omega⟩
    have hkl : k ≤ (encL q).length := by omega
    have tk : List.take ((encL q).length + 1) (List.take (encL q).length ([] ++ bCells (encL q)) ++ [Value.int .u8 255]) = bCells (encL q ++ [255]) := tk255 _
    have dm : decE (encL q ++ [255]) = 4 := by unfold decE; rw [dec_more]; rfl
    have e5 : (bs q).data.toList.length = q.length := bs_len q
    have e6 : ∀ t : List UInt8, (bs t).data.toList.length = t.length := fun t => bs_len t
    have hi : IsB ⟨bCells (encL q ++ [255]), true, .cells true⟩ ((encL q).length + 1) := isB_mk _ _ (by simp)
    have hp : Plain (bCells (encL q ++ [255])) := bCells_plain _
    simp only [hk, Int.toNat_natCast, tk, dB_mk, dm, e6]
    refine ⟨by omega, ⟨hc, by omega, by omega, by omega⟩, br_dec (by omega) ⟨⟨hkl, isB_mk _ _ (by rw [List.length_take]; omega), by omega⟩, br_intro (fun h2 => ?_) (fun h2 => ?_)⟩⟩
    · cases hd : decR ((encL q).take k) with
      | none => unfold decE at h2; rw [hd] at h2; simp at h2
      | some t =>
        have ht : decT ((encL q).take k) = t := by unfold decT; rw [hd]; rfl
        obtain ⟨z, hz⟩ := dec_part ((encL q).drop k) hd (List.take_append_drop _ _).symm
        have hzl := congrArg List.length hz
        rw [List.length_append] at hzl
        have hqt : q.take t.length = t := by rw [hz, List.take_append_of_le_length (Nat.le_refl _), List.take_length]
        rw [ht, hqt, strEq_bs]
        exact br_nif (by omega) fun _ => br_dec (by omega) (br_nb (by simp) (br_dec (Nat.le_refl _) (br_b rfl (br_dec (by omega) (br_dec (by omega) (br_dec (Nat.le_refl _) ⟨⟨⟨by omega, hp⟩, hi, by omega⟩, br_b rfl trivial⟩))))))
    · exact br_dec (Nat.le_refl _) (br_b rfl (br_dec (by omega) (br_dec (by omega) (br_dec (Nat.le_refl _) ⟨⟨⟨by omega, hp⟩, hi, by omega⟩, br_b rfl trivial⟩))))
  · have hq : s.length ≤ 100 := by omega
    generalize s = q at *
    have h1 := encL_len q
    obtain ⟨i1, i2⟩ := Go.Proofs.Ytbpeollodpjicaa.tk.inside_in c 0 ((encL q).length : Int) (by omega)
    obtain ⟨k, hk⟩ : ∃ k : Nat, Go.Proofs.Ytbpeollodpjicaa.tk.inside c 0 ((encL q).length : Int) = (k : Int) := ⟨(Go.Proofs.Ytbpeollodpjicaa.tk.inside c 0 ((encL q).length : Int)).toNat, by omega⟩
    have hkl : k ≤ (encL q).length := by omega
    have tk : List.take ((encL q).length + 1) (List.take (encL q).length ([] ++ bCells (encL q)) ++ [Value.int .u8 255]) = bCells (encL q ++ [255]) := tk255 _
    have dm : decE (encL q ++ [255]) = 4 := by unfold decE; rw [dec_more]; rfl
    have e5 : (bs q).data.toList.length = q.length := bs_len q
    have e6 : ∀ t : List UInt8, (bs t).data.toList.length = t.length := fun t => bs_len t
    have hi : IsB ⟨bCells (encL q ++ [255]), true, .cells true⟩ ((encL q).length + 1) := isB_mk _ _ (by simp)
    have hp : Plain (bCells (encL q ++ [255])) := bCells_plain _
    simp only [hk, Int.toNat_natCast, tk, dB_mk, dm, e6]
    refine ⟨by omega, ⟨hc, by omega, by omega, by omega⟩, br_dec (by omega) ⟨⟨hkl, isB_mk _ _ (by rw [List.length_take]; omega), by omega⟩, br_intro (fun h2 => ?_) (fun h2 => ?_)⟩⟩
    · cases hd : decR ((encL q).take k) with
      | none => unfold decE at h2; rw [hd] at h2; simp at h2
      | some t =>
        have ht : decT ((encL q).take k) = t := by unfold decT; rw [hd]; rfl
        obtain ⟨z, hz⟩ := dec_part ((encL q).drop k) hd (List.take_append_drop _ _).symm
        have hzl := congrArg List.length hz
        rw [List.length_append] at hzl
        have hqt : q.take t.length = t := by rw [hz, List.take_append_of_le_length (Nat.le_refl _), List.take_length]
        rw [ht, hqt, strEq_bs]
        exact br_nif (by omega) fun _ => br_dec (by omega) (br_nb (by simp) (br_dec (Nat.le_refl _) (br_b rfl (br_dec (by omega) (br_dec (by omega) (br_dec (Nat.le_refl _) ⟨⟨⟨by omega, hp⟩, hi, by omega⟩, br_b rfl trivial⟩))))))
    · exact br_dec (Nat.le_refl _) (br_b rfl (br_dec (by omega) (br_dec (by omega) (br_dec (Nat.le_refl _) ⟨⟨⟨by omega, hp⟩, hi, by omega⟩, br_b rfl trivial⟩))))
end Go.Proofs.Ytbpeollodpjicaa.hf
