/- The laws: a frame has a part or an error; what streams it may be on; padding. -/
import Derived.Test.YtagahikocoggcaaSz9
import Derived.Test.YtagahikocoggcaaRows
import Derived.Test.YtagahikocoggcaaLshF
import Derived.Test.YtagahikocoggcaaLwit
set_option linter.unusedSimpArgs false
set_option linter.unusedVariables false
namespace Go.Proofs.Ytagahikocoggcaa.sh
open Go Go.Ev Go.Sy Go.RowKit Go.Proofs.Ytagahikocoggcaa.gl
noncomputable def eWi : EntM := entC 17 fun a r => match a, r with
  | [.int .i64 n, .int .i64 lo, .int .i64 hi], [] => some (I64 n ∧ -1000000000000 ≤ lo ∧ hi ≤ 1000000000000 ∧ lo ≤ hi, .int .i64 (Go.Proofs.Ytagahikocoggcaa.tk.inside n lo hi), [])
  | _, _ => none
noncomputable def eRuns : EntM := entC 3 fun a r => match a, r with
  | [], [] => some (True, .bool true, [])
  | _, _ => none
noncomputable def tSh : List EntM := [eOf, ePa, eWi, eRuns]
noncomputable abbrev EtSh : Env := envT Try.prog tSh
theorem One_vc (ty fl st : Int) (l : List UInt8) : mcall EtSh noM 60 5 [.agg ⟨frCy ty fl st 0 l.length⟩] ⟨mkR (nums 0 [bRo l]), 1⟩ (retIs 1 (.bool true) [bRo l]) =
  (br (decide (Int.ofNat (List.length l) > (300 : Int)))
   (br (decide ((0 : Int) ≤ (↑(0 : Nat) : Int) ∧ (↑(0 : Nat) : Int) ≤ (300 : Int) ∧ (300 : Int) ≤ (↑(List.length l) : Int)))
    (((((True ∧ (True ∧ (True ∧ (((300 : Nat) ≤ List.length (bCells l) ∧ Plain (List.take (300 : Nat) (List.drop (0 : Nat) (bCells l)))) ∧ True)))) ∧ True) ∧ ((True ∧ True) ∧ ((Plain (oBc ty fl st (Row.mk (List.take (300 : Nat) (List.drop (0 : Nat) (bCells l))) true (Ob.cells true))) ∧ (Plain (oSc ty fl st (Row.mk (List.take (300 : Nat) (List.drop (0 : Nat) (bCells l))) true (Ob.cells true))) ∧ True)) ∧ (IsB (Row.mk (List.take (300 : Nat) (List.drop (0 : Nat) (bCells l))) true (Ob.cells true)) (300 : Nat) ∧ Int.toNat (300 : Int) - Int.toNat (↑(0 : Nat) : Int) ≤ (16777216 : Nat)))))) ∧
    (br (oXs ty fl st (Row.mk (List.take (300 : Nat) (List.drop (0 : Nat) (bCells l))) true (Ob.cells true)) == (0 : Int) && (oXc ty fl st (Row.mk (List.take (300 : Nat) (List.drop (0 : Nat) (bCells l))) true (Ob.cells true)) == (0 : Int) && (oXn ty fl st (Row.mk (List.take (300 : Nat) (List.drop (0 : Nat) (bCells l))) true (Ob.cells true)) == (0 : Int) && true)))
     (br (oTy ty fl st (Row.mk (List.take (300 : Nat) (List.drop (0 : Nat) (bCells l))) true (Ob.cells true)) == ty)
      (br (oSt ty fl st (Row.mk (List.take (300 : Nat) (List.drop (0 : Nat) (bCells l))) true (Ob.cells true)) == st)
       (br (decide (Int.ofNat (oBn ty fl st (Row.mk (List.take (300 : Nat) (List.drop (0 : Nat) (bCells l))) true (Ob.cells true))) ≤ (300 : Int)))
        (br (decide (oCs ty fl st (Row.mk (List.take (300 : Nat) (List.drop (0 : Nat) (bCells l))) true (Ob.cells true)) ≤ (300 : Int)))
         (((True ∧ (True ∧ (True ∧ True)))) ∧
         ((true = true) ∧
         ((Eq (α := List Value) (bCells l) (bCells l)) ∧
         ((Plain (bCells l)) ∧
         True))))
         ((true = false) ∧
         ((Eq (α := List Value) (bCells l) (bCells l)) ∧
         ((Plain (bCells l)) ∧
         True))))
        ((true = false) ∧
        ((Eq (α := List Value) (bCells l) (bCells l)) ∧
        ((Plain (bCells l)) ∧
        True))))
       ((true = false) ∧
       ((Eq (α := List Value) (bCells l) (bCells l)) ∧
       ((Plain (bCells l)) ∧
       True))))
      ((true = false) ∧
      ((Eq (α := List Value) (bCells l) (bCells l)) ∧
      ((Plain (bCells l)) ∧
      True))))
     (((((True ∧ (True ∧ (True ∧ (True ∧ (True ∧ (((0 : Nat) + oBn ty fl st (Row.mk (List.take (300 : Nat) (List.drop (0 : Nat) (bCells l))) true (Ob.cells true)) * (1 : Nat) ≤ List.length (oBc ty fl st (Row.mk (List.take (300 : Nat) (List.drop (0 : Nat) (bCells l))) true (Ob.cells true))) ∧ Plain (List.take (oBn ty fl st (Row.mk (List.take (300 : Nat) (List.drop (0 : Nat) (bCells l))) true (Ob.cells true)) * (1 : Nat)) (List.drop (0 : Nat) (oBc ty fl st (Row.mk (List.take (300 : Nat) (List.drop (0 : Nat) (bCells l))) true (Ob.cells true)))))) ∧ (True ∧ (True ∧ (True ∧ (True ∧ (((0 : Nat) + oSn ty fl st (Row.mk (List.take (300 : Nat) (List.drop (0 : Nat) (bCells l))) true (Ob.cells true)) * (2 : Nat) ≤ List.length (oSc ty fl st (Row.mk (List.take (300 : Nat) (List.drop (0 : Nat) (bCells l))) true (Ob.cells true))) ∧ Plain (List.take (oSn ty fl st (Row.mk (List.take (300 : Nat) (List.drop (0 : Nat) (bCells l))) true (Ob.cells true)) * (2 : Nat)) (List.drop (0 : Nat) (oSc ty fl st (Row.mk (List.take (300 : Nat) (List.drop (0 : Nat) (bCells l))) true (Ob.cells true)))))) ∧ True))))))))))) ∧ ((True ∧ (True ∧ (True ∧ (True ∧ (True ∧ (True ∧ (True ∧ (True ∧ (True ∧ (True ∧ (True ∧ True))))))))))) ∧ True)) ∧ ((True ∧ (True ∧ (True ∧ (True ∧ True)))) ∧ (True ∧ (IsB (Row.mk (List.take (oBn ty fl st (Row.mk (List.take (300 : Nat) (List.drop (0 : Nat) (bCells l))) true (Ob.cells true)) * (1 : Nat)) (List.drop (0 : Nat) (oBc ty fl st (Row.mk (List.take (300 : Nat) (List.drop (0 : Nat) (bCells l))) true (Ob.cells true))))) true (Ob.cells true)) (oBn ty fl st (Row.mk (List.take (300 : Nat) (List.drop (0 : Nat) (bCells l))) true (Ob.cells true))) ∧ (IsB (Row.mk [] true (Ob.cells true)) (0 : Nat) ∧ (IsSe (Row.mk (List.take (oSn ty fl st (Row.mk (List.take (300 : Nat) (List.drop (0 : Nat) (bCells l))) true (Ob.cells true)) * (2 : Nat)) (List.drop (0 : Nat) (oSc ty fl st (Row.mk (List.take (300 : Nat) (List.drop (0 : Nat) (bCells l))) true (Ob.cells true))))) true (Ob.cells true)) (oSn ty fl st (Row.mk (List.take (300 : Nat) (List.drop (0 : Nat) (bCells l))) true (Ob.cells true))) ∧ (IsSe (Row.mk [] true (Ob.cells true)) (0 : Nat) ∧ (oBn ty fl st (Row.mk (List.take (300 : Nat) (List.drop (0 : Nat) (bCells l))) true (Ob.cells true)) ≤ (9223372036854775807 : Nat) ∧ (oSn ty fl st (Row.mk (List.take (300 : Nat) (List.drop (0 : Nat) (bCells l))) true (Ob.cells true)) ≤ (9223372036854775807 : Nat) ∧ (Eq (α := List Value) (List.take (oBn ty fl st (Row.mk (List.take (300 : Nat) (List.drop (0 : Nat) (bCells l))) true (Ob.cells true)) * (1 : Nat)) (List.drop (0 : Nat) (oBc ty fl st (Row.mk (List.take (300 : Nat) (List.drop (0 : Nat) (bCells l))) true (Ob.cells true))))) ([]) ∧ (Eq (α := List Value) (List.take (oSn ty fl st (Row.mk (List.take (300 : Nat) (List.drop (0 : Nat) (bCells l))) true (Ob.cells true)) * (2 : Nat)) (List.drop (0 : Nat) (oSc ty fl st (Row.mk (List.take (300 : Nat) (List.drop (0 : Nat) (bCells l))) true (Ob.cells true))))) ([]) ∧ (oTy ty fl st (Row.mk (List.take (300 : Nat) (List.drop (0 : Nat) (bCells l))) true (Ob.cells true)) = (0 : Int) ∧ (oSt ty fl st (Row.mk (List.take (300 : Nat) (List.drop (0 : Nat) (bCells l))) true (Ob.cells true)) = (0 : Int) ∧ (oE ty fl st (Row.mk (List.take (300 : Nat) (List.drop (0 : Nat) (bCells l))) true (Ob.cells true)) = false ∧ (oF ty fl st (Row.mk (List.take (300 : Nat) (List.drop (0 : Nat) (bCells l))) true (Ob.cells true)) = false ∧ (oA ty fl st (Row.mk (List.take (300 : Nat) (List.drop (0 : Nat) (bCells l))) true (Ob.cells true)) = false ∧ (oCo ty fl st (Row.mk (List.take (300 : Nat) (List.drop (0 : Nat) (bCells l))) true (Ob.cells true)) = (0 : Int) ∧ (oLa ty fl st (Row.mk (List.take (300 : Nat) (List.drop (0 : Nat) (bCells l))) true (Ob.cells true)) = (0 : Int) ∧ (oMo ty fl st (Row.mk (List.take (300 : Nat) (List.drop (0 : Nat) (bCells l))) true (Ob.cells true)) = (0 : Int) ∧ oCs ty fl st (Row.mk (List.take (300 : Nat) (List.drop (0 : Nat) (bCells l))) true (Ob.cells true)) = (0 : Int))))))))))))))))))))) ∧
     (br (oXs ty fl st (Row.mk (List.take (300 : Nat) (List.drop (0 : Nat) (bCells l))) true (Ob.cells true)) == (2 : Int))
      (br (oXn ty fl st (Row.mk (List.take (300 : Nat) (List.drop (0 : Nat) (bCells l))) true (Ob.cells true)) == (0 : Int))
       (br (oXc ty fl st (Row.mk (List.take (300 : Nat) (List.drop (0 : Nat) (bCells l))) true (Ob.cells true)) != (0 : Int))
        (((True ∧ (True ∧ (True ∧ True)))) ∧
        ((true = true) ∧
        ((Eq (α := List Value) (bCells l) (bCells l)) ∧
        ((Plain (bCells l)) ∧
        True))))
        ((true = false) ∧
        ((Eq (α := List Value) (bCells l) (bCells l)) ∧
        ((Plain (bCells l)) ∧
        True))))
       (br (oXs ty fl st (Row.mk (List.take (300 : Nat) (List.drop (0 : Nat) (bCells l))) true (Ob.cells true)) == (1 : Int))
        (br (oXn ty fl st (Row.mk (List.take (300 : Nat) (List.drop (0 : Nat) (bCells l))) true (Ob.cells true)) == st)
         (br (st != (0 : Int))
          (br (oXc ty fl st (Row.mk (List.take (300 : Nat) (List.drop (0 : Nat) (bCells l))) true (Ob.cells true)) != (0 : Int))
           (((True ∧ (True ∧ (True ∧ True)))) ∧
           ((true = true) ∧
           ((Eq (α := List Value) (bCells l) (bCells l)) ∧
           ((Plain (bCells l)) ∧
           True))))
           ((true = false) ∧
           ((Eq (α := List Value) (bCells l) (bCells l)) ∧
           ((Plain (bCells l)) ∧
           True))))
          ((true = false) ∧
          ((Eq (α := List Value) (bCells l) (bCells l)) ∧
          ((Plain (bCells l)) ∧
          True))))
         ((true = false) ∧
         ((Eq (α := List Value) (bCells l) (bCells l)) ∧
         ((Plain (bCells l)) ∧
         True))))
        ((true = false) ∧
        ((Eq (α := List Value) (bCells l) (bCells l)) ∧
        ((Plain (bCells l)) ∧
        True)))))
      (br (oXs ty fl st (Row.mk (List.take (300 : Nat) (List.drop (0 : Nat) (bCells l))) true (Ob.cells true)) == (1 : Int))
       (br (oXn ty fl st (Row.mk (List.take (300 : Nat) (List.drop (0 : Nat) (bCells l))) true (Ob.cells true)) == st)
        (br (st != (0 : Int))
         (br (oXc ty fl st (Row.mk (List.take (300 : Nat) (List.drop (0 : Nat) (bCells l))) true (Ob.cells true)) != (0 : Int))
          (((True ∧ (True ∧ (True ∧ True)))) ∧
          ((true = true) ∧
          ((Eq (α := List Value) (bCells l) (bCells l)) ∧
          ((Plain (bCells l)) ∧
          True))))
          ((true = false) ∧
          ((Eq (α := List Value) (bCells l) (bCells l)) ∧
          ((Plain (bCells l)) ∧
          True))))
         ((true = false) ∧
         ((Eq (α := List Value) (bCells l) (bCells l)) ∧
         ((Plain (bCells l)) ∧
         True))))
        ((true = false) ∧
        ((Eq (α := List Value) (bCells l) (bCells l)) ∧
        ((Plain (bCells l)) ∧
        True))))
       ((true = false) ∧
       ((Eq (α := List Value) (bCells l) (bCells l)) ∧
       ((Plain (bCells l)) ∧
       True))))))))
    False)
   (((((True ∧ (True ∧ (True ∧ (((0 : Nat) + List.length l * (1 : Nat) ≤ List.length (bCells l) ∧ Plain (List.take (List.length l * (1 : Nat)) (List.drop (0 : Nat) (bCells l)))) ∧ True)))) ∧ True) ∧ ((True ∧ True) ∧ ((Plain (oBc ty fl st (Row.mk (List.take (List.length l * (1 : Nat)) (List.drop (0 : Nat) (bCells l))) true (Ob.cells true))) ∧ (Plain (oSc ty fl st (Row.mk (List.take (List.length l * (1 : Nat)) (List.drop (0 : Nat) (bCells l))) true (Ob.cells true))) ∧ True)) ∧ (IsB (Row.mk (List.take (List.length l * (1 : Nat)) (List.drop (0 : Nat) (bCells l))) true (Ob.cells true)) (List.length l) ∧ List.length l ≤ (16777216 : Nat)))))) ∧
   (br (oXs ty fl st (Row.mk (List.take (List.length l * (1 : Nat)) (List.drop (0 : Nat) (bCells l))) true (Ob.cells true)) == (0 : Int) && (oXc ty fl st (Row.mk (List.take (List.length l * (1 : Nat)) (List.drop (0 : Nat) (bCells l))) true (Ob.cells true)) == (0 : Int) && (oXn ty fl st (Row.mk (List.take (List.length l * (1 : Nat)) (List.drop (0 : Nat) (bCells l))) true (Ob.cells true)) == (0 : Int) && true)))
    (br (oTy ty fl st (Row.mk (List.take (List.length l * (1 : Nat)) (List.drop (0 : Nat) (bCells l))) true (Ob.cells true)) == ty)
     (br (oSt ty fl st (Row.mk (List.take (List.length l * (1 : Nat)) (List.drop (0 : Nat) (bCells l))) true (Ob.cells true)) == st)
      (br (decide (Int.ofNat (oBn ty fl st (Row.mk (List.take (List.length l * (1 : Nat)) (List.drop (0 : Nat) (bCells l))) true (Ob.cells true))) ≤ Int.ofNat (List.length l)))
       (br (decide (oCs ty fl st (Row.mk (List.take (List.length l * (1 : Nat)) (List.drop (0 : Nat) (bCells l))) true (Ob.cells true)) ≤ Int.ofNat (List.length l)))
        (((True ∧ (True ∧ (True ∧ True)))) ∧
        ((true = true) ∧
        ((Eq (α := List Value) (bCells l) (bCells l)) ∧
        ((Plain (bCells l)) ∧
        True))))
        ((true = false) ∧
        ((Eq (α := List Value) (bCells l) (bCells l)) ∧
        ((Plain (bCells l)) ∧
        True))))
       ((true = false) ∧
       ((Eq (α := List Value) (bCells l) (bCells l)) ∧
       ((Plain (bCells l)) ∧
       True))))
      ((true = false) ∧
      ((Eq (α := List Value) (bCells l) (bCells l)) ∧
      ((Plain (bCells l)) ∧
      True))))
     ((true = false) ∧
     ((Eq (α := List Value) (bCells l) (bCells l)) ∧
     ((Plain (bCells l)) ∧
     True))))
    (((((True ∧ (True ∧ (True ∧ (True ∧ (True ∧ (((0 : Nat) + oBn ty fl st (Row.mk (List.take (List.length l * (1 : Nat)) (List.drop (0 : Nat) (bCells l))) true (Ob.cells true)) * (1 : Nat) ≤ List.length (oBc ty fl st (Row.mk (List.take (List.length l * (1 : Nat)) (List.drop (0 : Nat) (bCells l))) true (Ob.cells true))) ∧ Plain (List.take (oBn ty fl st (Row.mk (List.take (List.length l * (1 : Nat)) (List.drop (0 : Nat) (bCells l))) true (Ob.cells true)) * (1 : Nat)) (List.drop (0 : Nat) (oBc ty fl st (Row.mk (List.take (List.length l * (1 : Nat)) (List.drop (0 : Nat) (bCells l))) true (Ob.cells true)))))) ∧ (True ∧ (True ∧ (True ∧ (True ∧ (((0 : Nat) + oSn ty fl st (Row.mk (List.take (List.length l * (1 : Nat)) (List.drop (0 : Nat) (bCells l))) true (Ob.cells true)) * (2 : Nat) ≤ List.length (oSc ty fl st (Row.mk (List.take (List.length l * (1 : Nat)) (List.drop (0 : Nat) (bCells l))) true (Ob.cells true))) ∧ Plain (List.take (oSn ty fl st (Row.mk (List.take (List.length l * (1 : Nat)) (List.drop (0 : Nat) (bCells l))) true (Ob.cells true)) * (2 : Nat)) (List.drop (0 : Nat) (oSc ty fl st (Row.mk (List.take (List.length l * (1 : Nat)) (List.drop (0 : Nat) (bCells l))) true (Ob.cells true)))))) ∧ True))))))))))) ∧ ((True ∧ (True ∧ (True ∧ (True ∧ (True ∧ (True ∧ (True ∧ (True ∧ (True ∧ (True ∧ (True ∧ True))))))))))) ∧ True)) ∧ ((True ∧ (True ∧ (True ∧ (True ∧ True)))) ∧ (True ∧ (IsB (Row.mk (List.take (oBn ty fl st (Row.mk (List.take (List.length l * (1 : Nat)) (List.drop (0 : Nat) (bCells l))) true (Ob.cells true)) * (1 : Nat)) (List.drop (0 : Nat) (oBc ty fl st (Row.mk (List.take (List.length l * (1 : Nat)) (List.drop (0 : Nat) (bCells l))) true (Ob.cells true))))) true (Ob.cells true)) (oBn ty fl st (Row.mk (List.take (List.length l * (1 : Nat)) (List.drop (0 : Nat) (bCells l))) true (Ob.cells true))) ∧ (IsB (Row.mk [] true (Ob.cells true)) (0 : Nat) ∧ (IsSe (Row.mk (List.take (oSn ty fl st (Row.mk (List.take (List.length l * (1 : Nat)) (List.drop (0 : Nat) (bCells l))) true (Ob.cells true)) * (2 : Nat)) (List.drop (0 : Nat) (oSc ty fl st (Row.mk (List.take (List.length l * (1 : Nat)) (List.drop (0 : Nat) (bCells l))) true (Ob.cells true))))) true (Ob.cells true)) (oSn ty fl st (Row.mk (List.take (List.length l * (1 : Nat)) (List.drop (0 : Nat) (bCells l))) true (Ob.cells true))) ∧ (IsSe (Row.mk [] true (Ob.cells true)) (0 : Nat) ∧ (oBn ty fl st (Row.mk (List.take (List.length l * (1 : Nat)) (List.drop (0 : Nat) (bCells l))) true (Ob.cells true)) ≤ (9223372036854775807 : Nat) ∧ (oSn ty fl st (Row.mk (List.take (List.length l * (1 : Nat)) (List.drop (0 : Nat) (bCells l))) true (Ob.cells true)) ≤ (9223372036854775807 : Nat) ∧ (Eq (α := List Value) (List.take (oBn ty fl st (Row.mk (List.take (List.length l * (1 : Nat)) (List.drop (0 : Nat) (bCells l))) true (Ob.cells true)) * (1 : Nat)) (List.drop (0 : Nat) (oBc ty fl st (Row.mk (List.take (List.length l * (1 : Nat)) (List.drop (0 : Nat) (bCells l))) true (Ob.cells true))))) ([]) ∧ (Eq (α := List Value) (List.take (oSn ty fl st (Row.mk (List.take (List.length l * (1 : Nat)) (List.drop (0 : Nat) (bCells l))) true (Ob.cells true)) * (2 : Nat)) (List.drop (0 : Nat) (oSc ty fl st (Row.mk (List.take (List.length l * (1 : Nat)) (List.drop (0 : Nat) (bCells l))) true (Ob.cells true))))) ([]) ∧ (oTy ty fl st (Row.mk (List.take (List.length l * (1 : Nat)) (List.drop (0 : Nat) (bCells l))) true (Ob.cells true)) = (0 : Int) ∧ (oSt ty fl st (Row.mk (List.take (List.length l * (1 : Nat)) (List.drop (0 : Nat) (bCells l))) true (Ob.cells true)) = (0 : Int) ∧ (oE ty fl st (Row.mk (List.take (List.length l * (1 : Nat)) (List.drop (0 : Nat) (bCells l))) true (Ob.cells true)) = false ∧ (oF ty fl st (Row.mk (List.take (List.length l * (1 : Nat)) (List.drop (0 : Nat) (bCells l))) true (Ob.cells true)) = false ∧ (oA ty fl st (Row.mk (List.take (List.length l * (1 : Nat)) (List.drop (0 : Nat) (bCells l))) true (Ob.cells true)) = false ∧ (oCo ty fl st (Row.mk (List.take (List.length l * (1 : Nat)) (List.drop (0 : Nat) (bCells l))) true (Ob.cells true)) = (0 : Int) ∧ (oLa ty fl st (Row.mk (List.take (List.length l * (1 : Nat)) (List.drop (0 : Nat) (bCells l))) true (Ob.cells true)) = (0 : Int) ∧ (oMo ty fl st (Row.mk (List.take (List.length l * (1 : Nat)) (List.drop (0 : Nat) (bCells l))) true (Ob.cells true)) = (0 : Int) ∧ oCs ty fl st (Row.mk (List.take (List.length l * (1 : Nat)) (List.drop (0 : Nat) (bCells l))) true (Ob.cells true)) = (0 : Int))))))))))))))))))))) ∧
    (br (oXs ty fl st (Row.mk (List.take (List.length l * (1 : Nat)) (List.drop (0 : Nat) (bCells l))) true (Ob.cells true)) == (2 : Int))
     (br (oXn ty fl st (Row.mk (List.take (List.length l * (1 : Nat)) (List.drop (0 : Nat) (bCells l))) true (Ob.cells true)) == (0 : Int))
      (br (oXc ty fl st (Row.mk (List.take (List.length l * (1 : Nat)) (List.drop (0 : Nat) (bCells l))) true (Ob.cells true)) != (0 : Int))
       (((True ∧ (True ∧ (True ∧ True)))) ∧
       ((true = true) ∧
       ((Eq (α := List Value) (bCells l) (bCells l)) ∧
       ((Plain (bCells l)) ∧
       True))))
       ((true = false) ∧
       ((Eq (α := List Value) (bCells l) (bCells l)) ∧
       ((Plain (bCells l)) ∧
       True))))
      (br (oXs ty fl st (Row.mk (List.take (List.length l * (1 : Nat)) (List.drop (0 : Nat) (bCells l))) true (Ob.cells true)) == (1 : Int))
       (br (oXn ty fl st (Row.mk (List.take (List.length l * (1 : Nat)) (List.drop (0 : Nat) (bCells l))) true (Ob.cells true)) == st)
        (br (st != (0 : Int))
         (br (oXc ty fl st (Row.mk (List.take (List.length l * (1 : Nat)) (List.drop (0 : Nat) (bCells l))) true (Ob.cells true)) != (0 : Int))
          (((True ∧ (True ∧ (True ∧ True)))) ∧
          ((true = true) ∧
          ((Eq (α := List Value) (bCells l) (bCells l)) ∧
          ((Plain (bCells l)) ∧
          True))))
          ((true = false) ∧
          ((Eq (α := List Value) (bCells l) (bCells l)) ∧
          ((Plain (bCells l)) ∧
          True))))
         ((true = false) ∧
         ((Eq (α := List Value) (bCells l) (bCells l)) ∧
         ((Plain (bCells l)) ∧
         True))))
        ((true = false) ∧
        ((Eq (α := List Value) (bCells l) (bCells l)) ∧
        ((Plain (bCells l)) ∧
        True))))
       ((true = false) ∧
       ((Eq (α := List Value) (bCells l) (bCells l)) ∧
       ((Plain (bCells l)) ∧
       True)))))
     (br (oXs ty fl st (Row.mk (List.take (List.length l * (1 : Nat)) (List.drop (0 : Nat) (bCells l))) true (Ob.cells true)) == (1 : Int))
      (br (oXn ty fl st (Row.mk (List.take (List.length l * (1 : Nat)) (List.drop (0 : Nat) (bCells l))) true (Ob.cells true)) == st)
       (br (st != (0 : Int))
        (br (oXc ty fl st (Row.mk (List.take (List.length l * (1 : Nat)) (List.drop (0 : Nat) (bCells l))) true (Ob.cells true)) != (0 : Int))
         (((True ∧ (True ∧ (True ∧ True)))) ∧
         ((true = true) ∧
         ((Eq (α := List Value) (bCells l) (bCells l)) ∧
         ((Plain (bCells l)) ∧
         True))))
         ((true = false) ∧
         ((Eq (α := List Value) (bCells l) (bCells l)) ∧
         ((Plain (bCells l)) ∧
         True))))
        ((true = false) ∧
        ((Eq (α := List Value) (bCells l) (bCells l)) ∧
        ((Plain (bCells l)) ∧
        True))))
       ((true = false) ∧
       ((Eq (α := List Value) (bCells l) (bCells l)) ∧
       ((Plain (bCells l)) ∧
       True))))
      ((true = false) ∧
      ((Eq (α := List Value) (bCells l) (bCells l)) ∧
      ((Plain (bCells l)) ∧
      True))))))))) := by kernel_rfl
theorem Zero_vc (ty fl st : Int) (l : List UInt8) : mcall EtSh noM 60 8 [.int .i64 ty, .int .i64 fl, .int .i64 st, .slice (some ⟨0, 0, none⟩) l.length 1] ⟨mkR (nums 0 [bRo l]), 1⟩ (retIs 1 (.bool true) [bRo l]) =
  ((((True ∧ (True ∧ (True ∧ True))) ∧ (True ∧ (True ∧ (I64 ty ∧ ((-1000000000000 : Int) ≤ (0 : Int) ∧ ((9 : Int) ≤ (1000000000000 : Int) ∧ (0 : Int) ≤ (9 : Int)))))))) ∧
  ((((True ∧ (True ∧ (True ∧ True))) ∧ (True ∧ (True ∧ (I64 fl ∧ ((-1000000000000 : Int) ≤ (0 : Int) ∧ ((255 : Int) ≤ (1000000000000 : Int) ∧ (0 : Int) ≤ (255 : Int)))))))) ∧
  ((((True ∧ (True ∧ (True ∧ True))) ∧ (True ∧ (True ∧ (I64 st ∧ ((-1000000000000 : Int) ≤ (0 : Int) ∧ ((2147483647 : Int) ≤ (1000000000000 : Int) ∧ (0 : Int) ≤ (2147483647 : Int)))))))) ∧
  (br (decide (Int.ofNat (List.length l) > (300 : Int)))
   (br (decide ((0 : Int) ≤ (↑(0 : Nat) : Int) ∧ (↑(0 : Nat) : Int) ≤ (300 : Int) ∧ (300 : Int) ≤ (↑(List.length l) : Int)))
    (br (tk.inside ty (0 : Int) (9 : Int) == (4 : Int))
     (((((True ∧ (True ∧ (True ∧ (((300 : Nat) ≤ List.length (bCells l) ∧ Plain (List.take (300 : Nat) (List.drop (0 : Nat) (bCells l)))) ∧ True)))) ∧ True) ∧ ((True ∧ True) ∧ ((Plain (oBc (tk.inside ty (0 : Int) (9 : Int)) (tk.inside fl (0 : Int) (255 : Int)) (tk.inside st (0 : Int) (2147483647 : Int)) (Row.mk (List.take (300 : Nat) (List.drop (0 : Nat) (bCells l))) true (Ob.cells true))) ∧ (Plain (oSc (tk.inside ty (0 : Int) (9 : Int)) (tk.inside fl (0 : Int) (255 : Int)) (tk.inside st (0 : Int) (2147483647 : Int)) (Row.mk (List.take (300 : Nat) (List.drop (0 : Nat) (bCells l))) true (Ob.cells true))) ∧ True)) ∧ (IsB (Row.mk (List.take (300 : Nat) (List.drop (0 : Nat) (bCells l))) true (Ob.cells true)) (300 : Nat) ∧ Int.toNat (300 : Int) - Int.toNat (↑(0 : Nat) : Int) ≤ (16777216 : Nat)))))) ∧
     (br (tk.inside st (0 : Int) (2147483647 : Int) != (0 : Int))
      (br (oXs (tk.inside ty (0 : Int) (9 : Int)) (tk.inside fl (0 : Int) (255 : Int)) (tk.inside st (0 : Int) (2147483647 : Int)) (Row.mk (List.take (300 : Nat) (List.drop (0 : Nat) (bCells l))) true (Ob.cells true)) == (2 : Int) && (oXc (tk.inside ty (0 : Int) (9 : Int)) (tk.inside fl (0 : Int) (255 : Int)) (tk.inside st (0 : Int) (2147483647 : Int)) (Row.mk (List.take (300 : Nat) (List.drop (0 : Nat) (bCells l))) true (Ob.cells true)) == (1 : Int) && (oXn (tk.inside ty (0 : Int) (9 : Int)) (tk.inside fl (0 : Int) (255 : Int)) (tk.inside st (0 : Int) (2147483647 : Int)) (Row.mk (List.take (300 : Nat) (List.drop (0 : Nat) (bCells l))) true (Ob.cells true)) == (0 : Int) && true)))
       (((True ∧ (True ∧ (True ∧ True)))) ∧
       ((true = true) ∧
       ((Eq (α := List Value) (bCells l) (bCells l)) ∧
       ((Plain (bCells l)) ∧
       True))))
       ((true = false) ∧
       ((Eq (α := List Value) (bCells l) (bCells l)) ∧
       ((Plain (bCells l)) ∧
       True))))
      (br (!tk.inside ty (0 : Int) (9 : Int) == (5 : Int))
       (((True ∧ (True ∧ (True ∧ True)))) ∧
       ((true = true) ∧
       ((Eq (α := List Value) (bCells l) (bCells l)) ∧
       ((Plain (bCells l)) ∧
       True))))
       (br (oXs (tk.inside ty (0 : Int) (9 : Int)) (tk.inside fl (0 : Int) (255 : Int)) (tk.inside st (0 : Int) (2147483647 : Int)) (Row.mk (List.take (300 : Nat) (List.drop (0 : Nat) (bCells l))) true (Ob.cells true)) == (2 : Int) && (oXc (tk.inside ty (0 : Int) (9 : Int)) (tk.inside fl (0 : Int) (255 : Int)) (tk.inside st (0 : Int) (2147483647 : Int)) (Row.mk (List.take (300 : Nat) (List.drop (0 : Nat) (bCells l))) true (Ob.cells true)) == (1 : Int) && (oXn (tk.inside ty (0 : Int) (9 : Int)) (tk.inside fl (0 : Int) (255 : Int)) (tk.inside st (0 : Int) (2147483647 : Int)) (Row.mk (List.take (300 : Nat) (List.drop (0 : Nat) (bCells l))) true (Ob.cells true)) == (0 : Int) && true)))
        (((True ∧ (True ∧ (True ∧ True)))) ∧
        ((true = true) ∧
        ((Eq (α := List Value) (bCells l) (bCells l)) ∧
        ((Plain (bCells l)) ∧
        True))))
        ((true = false) ∧
        ((Eq (α := List Value) (bCells l) (bCells l)) ∧
        ((Plain (bCells l)) ∧
        True)))))))
     (br (tk.inside ty (0 : Int) (9 : Int) == (6 : Int))
      (((((True ∧ (True ∧ (True ∧ (((300 : Nat) ≤ List.length (bCells l) ∧ Plain (List.take (300 : Nat) (List.drop (0 : Nat) (bCells l)))) ∧ True)))) ∧ True) ∧ ((True ∧ True) ∧ ((Plain (oBc (tk.inside ty (0 : Int) (9 : Int)) (tk.inside fl (0 : Int) (255 : Int)) (tk.inside st (0 : Int) (2147483647 : Int)) (Row.mk (List.take (300 : Nat) (List.drop (0 : Nat) (bCells l))) true (Ob.cells true))) ∧ (Plain (oSc (tk.inside ty (0 : Int) (9 : Int)) (tk.inside fl (0 : Int) (255 : Int)) (tk.inside st (0 : Int) (2147483647 : Int)) (Row.mk (List.take (300 : Nat) (List.drop (0 : Nat) (bCells l))) true (Ob.cells true))) ∧ True)) ∧ (IsB (Row.mk (List.take (300 : Nat) (List.drop (0 : Nat) (bCells l))) true (Ob.cells true)) (300 : Nat) ∧ Int.toNat (300 : Int) - Int.toNat (↑(0 : Nat) : Int) ≤ (16777216 : Nat)))))) ∧
      (br (tk.inside st (0 : Int) (2147483647 : Int) != (0 : Int))
       (br (oXs (tk.inside ty (0 : Int) (9 : Int)) (tk.inside fl (0 : Int) (255 : Int)) (tk.inside st (0 : Int) (2147483647 : Int)) (Row.mk (List.take (300 : Nat) (List.drop (0 : Nat) (bCells l))) true (Ob.cells true)) == (2 : Int) && (oXc (tk.inside ty (0 : Int) (9 : Int)) (tk.inside fl (0 : Int) (255 : Int)) (tk.inside st (0 : Int) (2147483647 : Int)) (Row.mk (List.take (300 : Nat) (List.drop (0 : Nat) (bCells l))) true (Ob.cells true)) == (1 : Int) && (oXn (tk.inside ty (0 : Int) (9 : Int)) (tk.inside fl (0 : Int) (255 : Int)) (tk.inside st (0 : Int) (2147483647 : Int)) (Row.mk (List.take (300 : Nat) (List.drop (0 : Nat) (bCells l))) true (Ob.cells true)) == (0 : Int) && true)))
        (((True ∧ (True ∧ (True ∧ True)))) ∧
        ((true = true) ∧
        ((Eq (α := List Value) (bCells l) (bCells l)) ∧
        ((Plain (bCells l)) ∧
        True))))
        ((true = false) ∧
        ((Eq (α := List Value) (bCells l) (bCells l)) ∧
        ((Plain (bCells l)) ∧
        True))))
       (br (!tk.inside ty (0 : Int) (9 : Int) == (5 : Int))
        (((True ∧ (True ∧ (True ∧ True)))) ∧
        ((true = true) ∧
        ((Eq (α := List Value) (bCells l) (bCells l)) ∧
        ((Plain (bCells l)) ∧
        True))))
        (br (oXs (tk.inside ty (0 : Int) (9 : Int)) (tk.inside fl (0 : Int) (255 : Int)) (tk.inside st (0 : Int) (2147483647 : Int)) (Row.mk (List.take (300 : Nat) (List.drop (0 : Nat) (bCells l))) true (Ob.cells true)) == (2 : Int) && (oXc (tk.inside ty (0 : Int) (9 : Int)) (tk.inside fl (0 : Int) (255 : Int)) (tk.inside st (0 : Int) (2147483647 : Int)) (Row.mk (List.take (300 : Nat) (List.drop (0 : Nat) (bCells l))) true (Ob.cells true)) == (1 : Int) && (oXn (tk.inside ty (0 : Int) (9 : Int)) (tk.inside fl (0 : Int) (255 : Int)) (tk.inside st (0 : Int) (2147483647 : Int)) (Row.mk (List.take (300 : Nat) (List.drop (0 : Nat) (bCells l))) true (Ob.cells true)) == (0 : Int) && true)))
         (((True ∧ (True ∧ (True ∧ True)))) ∧
         ((true = true) ∧
         ((Eq (α := List Value) (bCells l) (bCells l)) ∧
         ((Plain (bCells l)) ∧
         True))))
         ((true = false) ∧
         ((Eq (α := List Value) (bCells l) (bCells l)) ∧
         ((Plain (bCells l)) ∧
         True)))))))
      (((((True ∧ (True ∧ (True ∧ (((300 : Nat) ≤ List.length (bCells l) ∧ Plain (List.take (300 : Nat) (List.drop (0 : Nat) (bCells l)))) ∧ True)))) ∧ True) ∧ ((True ∧ True) ∧ ((Plain (oBc (tk.inside ty (0 : Int) (9 : Int)) (tk.inside fl (0 : Int) (255 : Int)) (tk.inside st (0 : Int) (2147483647 : Int)) (Row.mk (List.take (300 : Nat) (List.drop (0 : Nat) (bCells l))) true (Ob.cells true))) ∧ (Plain (oSc (tk.inside ty (0 : Int) (9 : Int)) (tk.inside fl (0 : Int) (255 : Int)) (tk.inside st (0 : Int) (2147483647 : Int)) (Row.mk (List.take (300 : Nat) (List.drop (0 : Nat) (bCells l))) true (Ob.cells true))) ∧ True)) ∧ (IsB (Row.mk (List.take (300 : Nat) (List.drop (0 : Nat) (bCells l))) true (Ob.cells true)) (300 : Nat) ∧ Int.toNat (300 : Int) - Int.toNat (↑(0 : Nat) : Int) ≤ (16777216 : Nat)))))) ∧
      (br (tk.inside ty (0 : Int) (9 : Int) == (7 : Int))
       (br (tk.inside st (0 : Int) (2147483647 : Int) != (0 : Int))
        (br (oXs (tk.inside ty (0 : Int) (9 : Int)) (tk.inside fl (0 : Int) (255 : Int)) (tk.inside st (0 : Int) (2147483647 : Int)) (Row.mk (List.take (300 : Nat) (List.drop (0 : Nat) (bCells l))) true (Ob.cells true)) == (2 : Int) && (oXc (tk.inside ty (0 : Int) (9 : Int)) (tk.inside fl (0 : Int) (255 : Int)) (tk.inside st (0 : Int) (2147483647 : Int)) (Row.mk (List.take (300 : Nat) (List.drop (0 : Nat) (bCells l))) true (Ob.cells true)) == (1 : Int) && (oXn (tk.inside ty (0 : Int) (9 : Int)) (tk.inside fl (0 : Int) (255 : Int)) (tk.inside st (0 : Int) (2147483647 : Int)) (Row.mk (List.take (300 : Nat) (List.drop (0 : Nat) (bCells l))) true (Ob.cells true)) == (0 : Int) && true)))
         (((True ∧ (True ∧ (True ∧ True)))) ∧
         ((true = true) ∧
         ((Eq (α := List Value) (bCells l) (bCells l)) ∧
         ((Plain (bCells l)) ∧
         True))))
         ((true = false) ∧
         ((Eq (α := List Value) (bCells l) (bCells l)) ∧
         ((Plain (bCells l)) ∧
         True))))
        (br (!tk.inside ty (0 : Int) (9 : Int) == (7 : Int))
         (br (tk.inside ty (0 : Int) (9 : Int) != (8 : Int))
          (br (tk.inside st (0 : Int) (2147483647 : Int) == (0 : Int))
           (br (oXs (tk.inside ty (0 : Int) (9 : Int)) (tk.inside fl (0 : Int) (255 : Int)) (tk.inside st (0 : Int) (2147483647 : Int)) (Row.mk (List.take (300 : Nat) (List.drop (0 : Nat) (bCells l))) true (Ob.cells true)) == (2 : Int) && (oXc (tk.inside ty (0 : Int) (9 : Int)) (tk.inside fl (0 : Int) (255 : Int)) (tk.inside st (0 : Int) (2147483647 : Int)) (Row.mk (List.take (300 : Nat) (List.drop (0 : Nat) (bCells l))) true (Ob.cells true)) == (1 : Int) && (oXn (tk.inside ty (0 : Int) (9 : Int)) (tk.inside fl (0 : Int) (255 : Int)) (tk.inside st (0 : Int) (2147483647 : Int)) (Row.mk (List.take (300 : Nat) (List.drop (0 : Nat) (bCells l))) true (Ob.cells true)) == (0 : Int) && true)))
            (((True ∧ (True ∧ (True ∧ True)))) ∧
            ((true = true) ∧
            ((Eq (α := List Value) (bCells l) (bCells l)) ∧
            ((Plain (bCells l)) ∧
            True))))
            ((true = false) ∧
            ((Eq (α := List Value) (bCells l) (bCells l)) ∧
            ((Plain (bCells l)) ∧
            True))))
           (br (!tk.inside ty (0 : Int) (9 : Int) == (5 : Int))
            (((True ∧ (True ∧ (True ∧ True)))) ∧
            ((true = true) ∧
            ((Eq (α := List Value) (bCells l) (bCells l)) ∧
            ((Plain (bCells l)) ∧
            True))))
            (br (oXs (tk.inside ty (0 : Int) (9 : Int)) (tk.inside fl (0 : Int) (255 : Int)) (tk.inside st (0 : Int) (2147483647 : Int)) (Row.mk (List.take (300 : Nat) (List.drop (0 : Nat) (bCells l))) true (Ob.cells true)) == (2 : Int) && (oXc (tk.inside ty (0 : Int) (9 : Int)) (tk.inside fl (0 : Int) (255 : Int)) (tk.inside st (0 : Int) (2147483647 : Int)) (Row.mk (List.take (300 : Nat) (List.drop (0 : Nat) (bCells l))) true (Ob.cells true)) == (1 : Int) && (oXn (tk.inside ty (0 : Int) (9 : Int)) (tk.inside fl (0 : Int) (255 : Int)) (tk.inside st (0 : Int) (2147483647 : Int)) (Row.mk (List.take (300 : Nat) (List.drop (0 : Nat) (bCells l))) true (Ob.cells true)) == (0 : Int) && true)))
             (((True ∧ (True ∧ (True ∧ True)))) ∧
             ((true = true) ∧
             ((Eq (α := List Value) (bCells l) (bCells l)) ∧
             ((Plain (bCells l)) ∧
             True))))
             ((true = false) ∧
             ((Eq (α := List Value) (bCells l) (bCells l)) ∧
             ((Plain (bCells l)) ∧
             True))))))
          (br (!tk.inside ty (0 : Int) (9 : Int) == (5 : Int))
           (((True ∧ (True ∧ (True ∧ True)))) ∧
           ((true = true) ∧
           ((Eq (α := List Value) (bCells l) (bCells l)) ∧
           ((Plain (bCells l)) ∧
           True))))
           (br (oXs (tk.inside ty (0 : Int) (9 : Int)) (tk.inside fl (0 : Int) (255 : Int)) (tk.inside st (0 : Int) (2147483647 : Int)) (Row.mk (List.take (300 : Nat) (List.drop (0 : Nat) (bCells l))) true (Ob.cells true)) == (2 : Int) && (oXc (tk.inside ty (0 : Int) (9 : Int)) (tk.inside fl (0 : Int) (255 : Int)) (tk.inside st (0 : Int) (2147483647 : Int)) (Row.mk (List.take (300 : Nat) (List.drop (0 : Nat) (bCells l))) true (Ob.cells true)) == (1 : Int) && (oXn (tk.inside ty (0 : Int) (9 : Int)) (tk.inside fl (0 : Int) (255 : Int)) (tk.inside st (0 : Int) (2147483647 : Int)) (Row.mk (List.take (300 : Nat) (List.drop (0 : Nat) (bCells l))) true (Ob.cells true)) == (0 : Int) && true)))
            (((True ∧ (True ∧ (True ∧ True)))) ∧
            ((true = true) ∧
            ((Eq (α := List Value) (bCells l) (bCells l)) ∧
            ((Plain (bCells l)) ∧
            True))))
            ((true = false) ∧
            ((Eq (α := List Value) (bCells l) (bCells l)) ∧
            ((Plain (bCells l)) ∧
            True))))))
         (br (!tk.inside ty (0 : Int) (9 : Int) == (5 : Int))
          (((True ∧ (True ∧ (True ∧ True)))) ∧
          ((true = true) ∧
          ((Eq (α := List Value) (bCells l) (bCells l)) ∧
          ((Plain (bCells l)) ∧
          True))))
          (br (oXs (tk.inside ty (0 : Int) (9 : Int)) (tk.inside fl (0 : Int) (255 : Int)) (tk.inside st (0 : Int) (2147483647 : Int)) (Row.mk (List.take (300 : Nat) (List.drop (0 : Nat) (bCells l))) true (Ob.cells true)) == (2 : Int) && (oXc (tk.inside ty (0 : Int) (9 : Int)) (tk.inside fl (0 : Int) (255 : Int)) (tk.inside st (0 : Int) (2147483647 : Int)) (Row.mk (List.take (300 : Nat) (List.drop (0 : Nat) (bCells l))) true (Ob.cells true)) == (1 : Int) && (oXn (tk.inside ty (0 : Int) (9 : Int)) (tk.inside fl (0 : Int) (255 : Int)) (tk.inside st (0 : Int) (2147483647 : Int)) (Row.mk (List.take (300 : Nat) (List.drop (0 : Nat) (bCells l))) true (Ob.cells true)) == (0 : Int) && true)))
           (((True ∧ (True ∧ (True ∧ True)))) ∧
           ((true = true) ∧
           ((Eq (α := List Value) (bCells l) (bCells l)) ∧
           ((Plain (bCells l)) ∧
           True))))
           ((true = false) ∧
           ((Eq (α := List Value) (bCells l) (bCells l)) ∧
           ((Plain (bCells l)) ∧
           True)))))))
       (br (!tk.inside ty (0 : Int) (9 : Int) == (7 : Int))
        (br (tk.inside ty (0 : Int) (9 : Int) != (8 : Int))
         (br (tk.inside st (0 : Int) (2147483647 : Int) == (0 : Int))
          (br (oXs (tk.inside ty (0 : Int) (9 : Int)) (tk.inside fl (0 : Int) (255 : Int)) (tk.inside st (0 : Int) (2147483647 : Int)) (Row.mk (List.take (300 : Nat) (List.drop (0 : Nat) (bCells l))) true (Ob.cells true)) == (2 : Int) && (oXc (tk.inside ty (0 : Int) (9 : Int)) (tk.inside fl (0 : Int) (255 : Int)) (tk.inside st (0 : Int) (2147483647 : Int)) (Row.mk (List.take (300 : Nat) (List.drop (0 : Nat) (bCells l))) true (Ob.cells true)) == (1 : Int) && (oXn (tk.inside ty (0 : Int) (9 : Int)) (tk.inside fl (0 : Int) (255 : Int)) (tk.inside st (0 : Int) (2147483647 : Int)) (Row.mk (List.take (300 : Nat) (List.drop (0 : Nat) (bCells l))) true (Ob.cells true)) == (0 : Int) && true)))
           (((True ∧ (True ∧ (True ∧ True)))) ∧
           ((true = true) ∧
           ((Eq (α := List Value) (bCells l) (bCells l)) ∧
           ((Plain (bCells l)) ∧
           True))))
           ((true = false) ∧
           ((Eq (α := List Value) (bCells l) (bCells l)) ∧
           ((Plain (bCells l)) ∧
           True))))
          (br (!tk.inside ty (0 : Int) (9 : Int) == (5 : Int))
           (((True ∧ (True ∧ (True ∧ True)))) ∧
           ((true = true) ∧
           ((Eq (α := List Value) (bCells l) (bCells l)) ∧
           ((Plain (bCells l)) ∧
           True))))
           (br (oXs (tk.inside ty (0 : Int) (9 : Int)) (tk.inside fl (0 : Int) (255 : Int)) (tk.inside st (0 : Int) (2147483647 : Int)) (Row.mk (List.take (300 : Nat) (List.drop (0 : Nat) (bCells l))) true (Ob.cells true)) == (2 : Int) && (oXc (tk.inside ty (0 : Int) (9 : Int)) (tk.inside fl (0 : Int) (255 : Int)) (tk.inside st (0 : Int) (2147483647 : Int)) (Row.mk (List.take (300 : Nat) (List.drop (0 : Nat) (bCells l))) true (Ob.cells true)) == (1 : Int) && (oXn (tk.inside ty (0 : Int) (9 : Int)) (tk.inside fl (0 : Int) (255 : Int)) (tk.inside st (0 : Int) (2147483647 : Int)) (Row.mk (List.take (300 : Nat) (List.drop (0 : Nat) (bCells l))) true (Ob.cells true)) == (0 : Int) && true)))
            (((True ∧ (True ∧ (True ∧ True)))) ∧
            ((true = true) ∧
            ((Eq (α := List Value) (bCells l) (bCells l)) ∧
            ((Plain (bCells l)) ∧
            True))))
            ((true = false) ∧
            ((Eq (α := List Value) (bCells l) (bCells l)) ∧
            ((Plain (bCells l)) ∧
            True))))))
         (br (!tk.inside ty (0 : Int) (9 : Int) == (5 : Int))
          (((True ∧ (True ∧ (True ∧ True)))) ∧
          ((true = true) ∧
          ((Eq (α := List Value) (bCells l) (bCells l)) ∧
          ((Plain (bCells l)) ∧
          True))))
          (br (oXs (tk.inside ty (0 : Int) (9 : Int)) (tk.inside fl (0 : Int) (255 : Int)) (tk.inside st (0 : Int) (2147483647 : Int)) (Row.mk (List.take (300 : Nat) (List.drop (0 : Nat) (bCells l))) true (Ob.cells true)) == (2 : Int) && (oXc (tk.inside ty (0 : Int) (9 : Int)) (tk.inside fl (0 : Int) (255 : Int)) (tk.inside st (0 : Int) (2147483647 : Int)) (Row.mk (List.take (300 : Nat) (List.drop (0 : Nat) (bCells l))) true (Ob.cells true)) == (1 : Int) && (oXn (tk.inside ty (0 : Int) (9 : Int)) (tk.inside fl (0 : Int) (255 : Int)) (tk.inside st (0 : Int) (2147483647 : Int)) (Row.mk (List.take (300 : Nat) (List.drop (0 : Nat) (bCells l))) true (Ob.cells true)) == (0 : Int) && true)))
           (((True ∧ (True ∧ (True ∧ True)))) ∧
           ((true = true) ∧
           ((Eq (α := List Value) (bCells l) (bCells l)) ∧
           ((Plain (bCells l)) ∧
           True))))
           ((true = false) ∧
           ((Eq (α := List Value) (bCells l) (bCells l)) ∧
           ((Plain (bCells l)) ∧
           True))))))
        (br (!tk.inside ty (0 : Int) (9 : Int) == (5 : Int))
         (((True ∧ (True ∧ (True ∧ True)))) ∧
         ((true = true) ∧
         ((Eq (α := List Value) (bCells l) (bCells l)) ∧
         ((Plain (bCells l)) ∧
         True))))
         (br (oXs (tk.inside ty (0 : Int) (9 : Int)) (tk.inside fl (0 : Int) (255 : Int)) (tk.inside st (0 : Int) (2147483647 : Int)) (Row.mk (List.take (300 : Nat) (List.drop (0 : Nat) (bCells l))) true (Ob.cells true)) == (2 : Int) && (oXc (tk.inside ty (0 : Int) (9 : Int)) (tk.inside fl (0 : Int) (255 : Int)) (tk.inside st (0 : Int) (2147483647 : Int)) (Row.mk (List.take (300 : Nat) (List.drop (0 : Nat) (bCells l))) true (Ob.cells true)) == (1 : Int) && (oXn (tk.inside ty (0 : Int) (9 : Int)) (tk.inside fl (0 : Int) (255 : Int)) (tk.inside st (0 : Int) (2147483647 : Int)) (Row.mk (List.take (300 : Nat) (List.drop (0 : Nat) (bCells l))) true (Ob.cells true)) == (0 : Int) && true)))
          (((True ∧ (True ∧ (True ∧ True)))) ∧
          ((true = true) ∧
          ((Eq (α := List Value) (bCells l) (bCells l)) ∧
          ((Plain (bCells l)) ∧
          True))))
          ((true = false) ∧
          ((Eq (α := List Value) (bCells l) (bCells l)) ∧
          ((Plain (bCells l)) ∧
          True))))))))))
    False)
   (br (tk.inside ty (0 : Int) (9 : Int) == (4 : Int))
    (((((True ∧ (True ∧ (True ∧ (((0 : Nat) + List.length l * (1 : Nat) ≤ List.length (bCells l) ∧ Plain (List.take (List.length l * (1 : Nat)) (List.drop (0 : Nat) (bCells l)))) ∧ True)))) ∧ True) ∧ ((True ∧ True) ∧ ((Plain (oBc (tk.inside ty (0 : Int) (9 : Int)) (tk.inside fl (0 : Int) (255 : Int)) (tk.inside st (0 : Int) (2147483647 : Int)) (Row.mk (List.take (List.length l * (1 : Nat)) (List.drop (0 : Nat) (bCells l))) true (Ob.cells true))) ∧ (Plain (oSc (tk.inside ty (0 : Int) (9 : Int)) (tk.inside fl (0 : Int) (255 : Int)) (tk.inside st (0 : Int) (2147483647 : Int)) (Row.mk (List.take (List.length l * (1 : Nat)) (List.drop (0 : Nat) (bCells l))) true (Ob.cells true))) ∧ True)) ∧ (IsB (Row.mk (List.take (List.length l * (1 : Nat)) (List.drop (0 : Nat) (bCells l))) true (Ob.cells true)) (List.length l) ∧ List.length l ≤ (16777216 : Nat)))))) ∧
    (br (tk.inside st (0 : Int) (2147483647 : Int) != (0 : Int))
     (br (oXs (tk.inside ty (0 : Int) (9 : Int)) (tk.inside fl (0 : Int) (255 : Int)) (tk.inside st (0 : Int) (2147483647 : Int)) (Row.mk (List.take (List.length l * (1 : Nat)) (List.drop (0 : Nat) (bCells l))) true (Ob.cells true)) == (2 : Int) && (oXc (tk.inside ty (0 : Int) (9 : Int)) (tk.inside fl (0 : Int) (255 : Int)) (tk.inside st (0 : Int) (2147483647 : Int)) (Row.mk (List.take (List.length l * (1 : Nat)) (List.drop (0 : Nat) (bCells l))) true (Ob.cells true)) == (1 : Int) && (oXn (tk.inside ty (0 : Int) (9 : Int)) (tk.inside fl (0 : Int) (255 : Int)) (tk.inside st (0 : Int) (2147483647 : Int)) (Row.mk (List.take (List.length l * (1 : Nat)) (List.drop (0 : Nat) (bCells l))) true (Ob.cells true)) == (0 : Int) && true)))
      (((True ∧ (True ∧ (True ∧ True)))) ∧
      ((true = true) ∧
      ((Eq (α := List Value) (bCells l) (bCells l)) ∧
      ((Plain (bCells l)) ∧
      True))))
      ((true = false) ∧
      ((Eq (α := List Value) (bCells l) (bCells l)) ∧
      ((Plain (bCells l)) ∧
      True))))
     (br (!tk.inside ty (0 : Int) (9 : Int) == (5 : Int))
      (((True ∧ (True ∧ (True ∧ True)))) ∧
      ((true = true) ∧
      ((Eq (α := List Value) (bCells l) (bCells l)) ∧
      ((Plain (bCells l)) ∧
      True))))
      (br (oXs (tk.inside ty (0 : Int) (9 : Int)) (tk.inside fl (0 : Int) (255 : Int)) (tk.inside st (0 : Int) (2147483647 : Int)) (Row.mk (List.take (List.length l * (1 : Nat)) (List.drop (0 : Nat) (bCells l))) true (Ob.cells true)) == (2 : Int) && (oXc (tk.inside ty (0 : Int) (9 : Int)) (tk.inside fl (0 : Int) (255 : Int)) (tk.inside st (0 : Int) (2147483647 : Int)) (Row.mk (List.take (List.length l * (1 : Nat)) (List.drop (0 : Nat) (bCells l))) true (Ob.cells true)) == (1 : Int) && (oXn (tk.inside ty (0 : Int) (9 : Int)) (tk.inside fl (0 : Int) (255 : Int)) (tk.inside st (0 : Int) (2147483647 : Int)) (Row.mk (List.take (List.length l * (1 : Nat)) (List.drop (0 : Nat) (bCells l))) true (Ob.cells true)) == (0 : Int) && true)))
       (((True ∧ (True ∧ (True ∧ True)))) ∧
       ((true = true) ∧
       ((Eq (α := List Value) (bCells l) (bCells l)) ∧
       ((Plain (bCells l)) ∧
       True))))
       ((true = false) ∧
       ((Eq (α := List Value) (bCells l) (bCells l)) ∧
       ((Plain (bCells l)) ∧
       True)))))))
    (br (tk.inside ty (0 : Int) (9 : Int) == (6 : Int))
     (((((True ∧ (True ∧ (True ∧ (((0 : Nat) + List.length l * (1 : Nat) ≤ List.length (bCells l) ∧ Plain (List.take (List.length l * (1 : Nat)) (List.drop (0 : Nat) (bCells l)))) ∧ True)))) ∧ True) ∧ ((True ∧ True) ∧ ((Plain (oBc (tk.inside ty (0 : Int) (9 : Int)) (tk.inside fl (0 : Int) (255 : Int)) (tk.inside st (0 : Int) (2147483647 : Int)) (Row.mk (List.take (List.length l * (1 : Nat)) (List.drop (0 : Nat) (bCells l))) true (Ob.cells true))) ∧ (Plain (oSc (tk.inside ty (0 : Int) (9 : Int)) (tk.inside fl (0 : Int) (255 : Int)) (tk.inside st (0 : Int) (2147483647 : Int)) (Row.mk (List.take (List.length l * (1 : Nat)) (List.drop (0 : Nat) (bCells l))) true (Ob.cells true))) ∧ True)) ∧ (IsB (Row.mk (List.take (List.length l * (1 : Nat)) (List.drop (0 : Nat) (bCells l))) true (Ob.cells true)) (List.length l) ∧ List.length l ≤ (16777216 : Nat)))))) ∧
     (br (tk.inside st (0 : Int) (2147483647 : Int) != (0 : Int))
      (br (oXs (tk.inside ty (0 : Int) (9 : Int)) (tk.inside fl (0 : Int) (255 : Int)) (tk.inside st (0 : Int) (2147483647 : Int)) (Row.mk (List.take (List.length l * (1 : Nat)) (List.drop (0 : Nat) (bCells l))) true (Ob.cells true)) == (2 : Int) && (oXc (tk.inside ty (0 : Int) (9 : Int)) (tk.inside fl (0 : Int) (255 : Int)) (tk.inside st (0 : Int) (2147483647 : Int)) (Row.mk (List.take (List.length l * (1 : Nat)) (List.drop (0 : Nat) (bCells l))) true (Ob.cells true)) == (1 : Int) && (oXn (tk.inside ty (0 : Int) (9 : Int)) (tk.inside fl (0 : Int) (255 : Int)) (tk.inside st (0 : Int) (2147483647 : Int)) (Row.mk (List.take (List.length l * (1 : Nat)) (List.drop (0 : Nat) (bCells l))) true (Ob.cells true)) == (0 : Int) && true)))
       (((True ∧ (True ∧ (True ∧ True)))) ∧
       ((true = true) ∧
       ((Eq (α := List Value) (bCells l) (bCells l)) ∧
       ((Plain (bCells l)) ∧
       True))))
       ((true = false) ∧
       ((Eq (α := List Value) (bCells l) (bCells l)) ∧
       ((Plain (bCells l)) ∧
       True))))
      (br (!tk.inside ty (0 : Int) (9 : Int) == (5 : Int))
       (((True ∧ (True ∧ (True ∧ True)))) ∧
       ((true = true) ∧
       ((Eq (α := List Value) (bCells l) (bCells l)) ∧
       ((Plain (bCells l)) ∧
       True))))
       (br (oXs (tk.inside ty (0 : Int) (9 : Int)) (tk.inside fl (0 : Int) (255 : Int)) (tk.inside st (0 : Int) (2147483647 : Int)) (Row.mk (List.take (List.length l * (1 : Nat)) (List.drop (0 : Nat) (bCells l))) true (Ob.cells true)) == (2 : Int) && (oXc (tk.inside ty (0 : Int) (9 : Int)) (tk.inside fl (0 : Int) (255 : Int)) (tk.inside st (0 : Int) (2147483647 : Int)) (Row.mk (List.take (List.length l * (1 : Nat)) (List.drop (0 : Nat) (bCells l))) true (Ob.cells true)) == (1 : Int) && (oXn (tk.inside ty (0 : Int) (9 : Int)) (tk.inside fl (0 : Int) (255 : Int)) (tk.inside st (0 : Int) (2147483647 : Int)) (Row.mk (List.take (List.length l * (1 : Nat)) (List.drop (0 : Nat) (bCells l))) true (Ob.cells true)) == (0 : Int) && true)))
        (((True ∧ (True ∧ (True ∧ True)))) ∧
        ((true = true) ∧
        ((Eq (α := List Value) (bCells l) (bCells l)) ∧
        ((Plain (bCells l)) ∧
        True))))
        ((true = false) ∧
        ((Eq (α := List Value) (bCells l) (bCells l)) ∧
        ((Plain (bCells l)) ∧
        True)))))))
     (((((True ∧ (True ∧ (True ∧ (((0 : Nat) + List.length l * (1 : Nat) ≤ List.length (bCells l) ∧ Plain (List.take (List.length l * (1 : Nat)) (List.drop (0 : Nat) (bCells l)))) ∧ True)))) ∧ True) ∧ ((True ∧ True) ∧ ((Plain (oBc (tk.inside ty (0 : Int) (9 : Int)) (tk.inside fl (0 : Int) (255 : Int)) (tk.inside st (0 : Int) (2147483647 : Int)) (Row.mk (List.take (List.length l * (1 : Nat)) (List.drop (0 : Nat) (bCells l))) true (Ob.cells true))) ∧ (Plain (oSc (tk.inside ty (0 : Int) (9 : Int)) (tk.inside fl (0 : Int) (255 : Int)) (tk.inside st (0 : Int) (2147483647 : Int)) (Row.mk (List.take (List.length l * (1 : Nat)) (List.drop (0 : Nat) (bCells l))) true (Ob.cells true))) ∧ True)) ∧ (IsB (Row.mk (List.take (List.length l * (1 : Nat)) (List.drop (0 : Nat) (bCells l))) true (Ob.cells true)) (List.length l) ∧ List.length l ≤ (16777216 : Nat)))))) ∧
     (br (tk.inside ty (0 : Int) (9 : Int) == (7 : Int))
      (br (tk.inside st (0 : Int) (2147483647 : Int) != (0 : Int))
       (br (oXs (tk.inside ty (0 : Int) (9 : Int)) (tk.inside fl (0 : Int) (255 : Int)) (tk.inside st (0 : Int) (2147483647 : Int)) (Row.mk (List.take (List.length l * (1 : Nat)) (List.drop (0 : Nat) (bCells l))) true (Ob.cells true)) == (2 : Int) && (oXc (tk.inside ty (0 : Int) (9 : Int)) (tk.inside fl (0 : Int) (255 : Int)) (tk.inside st (0 : Int) (2147483647 : Int)) (Row.mk (List.take (List.length l * (1 : Nat)) (List.drop (0 : Nat) (bCells l))) true (Ob.cells true)) == (1 : Int) && (oXn (tk.inside ty (0 : Int) (9 : Int)) (tk.inside fl (0 : Int) (255 : Int)) (tk.inside st (0 : Int) (2147483647 : Int)) (Row.mk (List.take (List.length l * (1 : Nat)) (List.drop (0 : Nat) (bCells l))) true (Ob.cells true)) == (0 : Int) && true)))
        (((True ∧ (True ∧ (True ∧ True)))) ∧
        ((true = true) ∧
        ((Eq (α := List Value) (bCells l) (bCells l)) ∧
        ((Plain (bCells l)) ∧
        True))))
        ((true = false) ∧
        ((Eq (α := List Value) (bCells l) (bCells l)) ∧
        ((Plain (bCells l)) ∧
        True))))
       (br (!tk.inside ty (0 : Int) (9 : Int) == (7 : Int))
        (br (tk.inside ty (0 : Int) (9 : Int) != (8 : Int))
         (br (tk.inside st (0 : Int) (2147483647 : Int) == (0 : Int))
          (br (oXs (tk.inside ty (0 : Int) (9 : Int)) (tk.inside fl (0 : Int) (255 : Int)) (tk.inside st (0 : Int) (2147483647 : Int)) (Row.mk (List.take (List.length l * (1 : Nat)) (List.drop (0 : Nat) (bCells l))) true (Ob.cells true)) == (2 : Int) && (oXc (tk.inside ty (0 : Int) (9 : Int)) (tk.inside fl (0 : Int) (255 : Int)) (tk.inside st (0 : Int) (2147483647 : Int)) (Row.mk (List.take (List.length l * (1 : Nat)) (List.drop (0 : Nat) (bCells l))) true (Ob.cells true)) == (1 : Int) && (oXn (tk.inside ty (0 : Int) (9 : Int)) (tk.inside fl (0 : Int) (255 : Int)) (tk.inside st (0 : Int) (2147483647 : Int)) (Row.mk (List.take (List.length l * (1 : Nat)) (List.drop (0 : Nat) (bCells l))) true (Ob.cells true)) == (0 : Int) && true)))
           (((True ∧ (True ∧ (True ∧ True)))) ∧
           ((true = true) ∧
           ((Eq (α := List Value) (bCells l) (bCells l)) ∧
           ((Plain (bCells l)) ∧
           True))))
           ((true = false) ∧
           ((Eq (α := List Value) (bCells l) (bCells l)) ∧
           ((Plain (bCells l)) ∧
           True))))
          (br (!tk.inside ty (0 : Int) (9 : Int) == (5 : Int))
           (((True ∧ (True ∧ (True ∧ True)))) ∧
           ((true = true) ∧
           ((Eq (α := List Value) (bCells l) (bCells l)) ∧
           ((Plain (bCells l)) ∧
           True))))
           (br (oXs (tk.inside ty (0 : Int) (9 : Int)) (tk.inside fl (0 : Int) (255 : Int)) (tk.inside st (0 : Int) (2147483647 : Int)) (Row.mk (List.take (List.length l * (1 : Nat)) (List.drop (0 : Nat) (bCells l))) true (Ob.cells true)) == (2 : Int) && (oXc (tk.inside ty (0 : Int) (9 : Int)) (tk.inside fl (0 : Int) (255 : Int)) (tk.inside st (0 : Int) (2147483647 : Int)) (Row.mk (List.take (List.length l * (1 : Nat)) (List.drop (0 : Nat) (bCells l))) true (Ob.cells true)) == (1 : Int) && (oXn (tk.inside ty (0 : Int) (9 : Int)) (tk.inside fl (0 : Int) (255 : Int)) (tk.inside st (0 : Int) (2147483647 : Int)) (Row.mk (List.take (List.length l * (1 : Nat)) (List.drop (0 : Nat) (bCells l))) true (Ob.cells true)) == (0 : Int) && true)))
            (((True ∧ (True ∧ (True ∧ True)))) ∧
            ((true = true) ∧
            ((Eq (α := List Value) (bCells l) (bCells l)) ∧
            ((Plain (bCells l)) ∧
            True))))
            ((true = false) ∧
            ((Eq (α := List Value) (bCells l) (bCells l)) ∧
            ((Plain (bCells l)) ∧
            True))))))
         (br (!tk.inside ty (0 : Int) (9 : Int) == (5 : Int))
          (((True ∧ (True ∧ (True ∧ True)))) ∧
          ((true = true) ∧
          ((Eq (α := List Value) (bCells l) (bCells l)) ∧
          ((Plain (bCells l)) ∧
          True))))
          (br (oXs (tk.inside ty (0 : Int) (9 : Int)) (tk.inside fl (0 : Int) (255 : Int)) (tk.inside st (0 : Int) (2147483647 : Int)) (Row.mk (List.take (List.length l * (1 : Nat)) (List.drop (0 : Nat) (bCells l))) true (Ob.cells true)) == (2 : Int) && (oXc (tk.inside ty (0 : Int) (9 : Int)) (tk.inside fl (0 : Int) (255 : Int)) (tk.inside st (0 : Int) (2147483647 : Int)) (Row.mk (List.take (List.length l * (1 : Nat)) (List.drop (0 : Nat) (bCells l))) true (Ob.cells true)) == (1 : Int) && (oXn (tk.inside ty (0 : Int) (9 : Int)) (tk.inside fl (0 : Int) (255 : Int)) (tk.inside st (0 : Int) (2147483647 : Int)) (Row.mk (List.take (List.length l * (1 : Nat)) (List.drop (0 : Nat) (bCells l))) true (Ob.cells true)) == (0 : Int) && true)))
           (((True ∧ (True ∧ (True ∧ True)))) ∧
           ((true = true) ∧
           ((Eq (α := List Value) (bCells l) (bCells l)) ∧
           ((Plain (bCells l)) ∧
           True))))
           ((true = false) ∧
           ((Eq (α := List Value) (bCells l) (bCells l)) ∧
           ((Plain (bCells l)) ∧
           True))))))
        (br (!tk.inside ty (0 : Int) (9 : Int) == (5 : Int))
         (((True ∧ (True ∧ (True ∧ True)))) ∧
         ((true = true) ∧
         ((Eq (α := List Value) (bCells l) (bCells l)) ∧
         ((Plain (bCells l)) ∧
         True))))
         (br (oXs (tk.inside ty (0 : Int) (9 : Int)) (tk.inside fl (0 : Int) (255 : Int)) (tk.inside st (0 : Int) (2147483647 : Int)) (Row.mk (List.take (List.length l * (1 : Nat)) (List.drop (0 : Nat) (bCells l))) true (Ob.cells true)) == (2 : Int) && (oXc (tk.inside ty (0 : Int) (9 : Int)) (tk.inside fl (0 : Int) (255 : Int)) (tk.inside st (0 : Int) (2147483647 : Int)) (Row.mk (List.take (List.length l * (1 : Nat)) (List.drop (0 : Nat) (bCells l))) true (Ob.cells true)) == (1 : Int) && (oXn (tk.inside ty (0 : Int) (9 : Int)) (tk.inside fl (0 : Int) (255 : Int)) (tk.inside st (0 : Int) (2147483647 : Int)) (Row.mk (List.take (List.length l * (1 : Nat)) (List.drop (0 : Nat) (bCells l))) true (Ob.cells true)) == (0 : Int) && true)))
          (((True ∧ (True ∧ (True ∧ True)))) ∧
          ((true = true) ∧
          ((Eq (α := List Value) (bCells l) (bCells l)) ∧
          ((Plain (bCells l)) ∧
          True))))
          ((true = false) ∧
          ((Eq (α := List Value) (bCells l) (bCells l)) ∧
          ((Plain (bCells l)) ∧
          True)))))))
      (br (!tk.inside ty (0 : Int) (9 : Int) == (7 : Int))
       (br (tk.inside ty (0 : Int) (9 : Int) != (8 : Int))
        (br (tk.inside st (0 : Int) (2147483647 : Int) == (0 : Int))
         (br (oXs (tk.inside ty (0 : Int) (9 : Int)) (tk.inside fl (0 : Int) (255 : Int)) (tk.inside st (0 : Int) (2147483647 : Int)) (Row.mk (List.take (List.length l * (1 : Nat)) (List.drop (0 : Nat) (bCells l))) true (Ob.cells true)) == (2 : Int) && (oXc (tk.inside ty (0 : Int) (9 : Int)) (tk.inside fl (0 : Int) (255 : Int)) (tk.inside st (0 : Int) (2147483647 : Int)) (Row.mk (List.take (List.length l * (1 : Nat)) (List.drop (0 : Nat) (bCells l))) true (Ob.cells true)) == (1 : Int) && (oXn (tk.inside ty (0 : Int) (9 : Int)) (tk.inside fl (0 : Int) (255 : Int)) (tk.inside st (0 : Int) (2147483647 : Int)) (Row.mk (List.take (List.length l * (1 : Nat)) (List.drop (0 : Nat) (bCells l))) true (Ob.cells true)) == (0 : Int) && true)))
          (((True ∧ (True ∧ (True ∧ True)))) ∧
          ((true = true) ∧
          ((Eq (α := List Value) (bCells l) (bCells l)) ∧
          ((Plain (bCells l)) ∧
          True))))
          ((true = false) ∧
          ((Eq (α := List Value) (bCells l) (bCells l)) ∧
          ((Plain (bCells l)) ∧
          True))))
         (br (!tk.inside ty (0 : Int) (9 : Int) == (5 : Int))
          (((True ∧ (True ∧ (True ∧ True)))) ∧
          ((true = true) ∧
          ((Eq (α := List Value) (bCells l) (bCells l)) ∧
          ((Plain (bCells l)) ∧
          True))))
          (br (oXs (tk.inside ty (0 : Int) (9 : Int)) (tk.inside fl (0 : Int) (255 : Int)) (tk.inside st (0 : Int) (2147483647 : Int)) (Row.mk (List.take (List.length l * (1 : Nat)) (List.drop (0 : Nat) (bCells l))) true (Ob.cells true)) == (2 : Int) && (oXc (tk.inside ty (0 : Int) (9 : Int)) (tk.inside fl (0 : Int) (255 : Int)) (tk.inside st (0 : Int) (2147483647 : Int)) (Row.mk (List.take (List.length l * (1 : Nat)) (List.drop (0 : Nat) (bCells l))) true (Ob.cells true)) == (1 : Int) && (oXn (tk.inside ty (0 : Int) (9 : Int)) (tk.inside fl (0 : Int) (255 : Int)) (tk.inside st (0 : Int) (2147483647 : Int)) (Row.mk (List.take (List.length l * (1 : Nat)) (List.drop (0 : Nat) (bCells l))) true (Ob.cells true)) == (0 : Int) && true)))
           (((True ∧ (True ∧ (True ∧ True)))) ∧
           ((true = true) ∧
           ((Eq (α := List Value) (bCells l) (bCells l)) ∧
           ((Plain (bCells l)) ∧
           True))))
           ((true = false) ∧
           ((Eq (α := List Value) (bCells l) (bCells l)) ∧
           ((Plain (bCells l)) ∧
           True))))))
        (br (!tk.inside ty (0 : Int) (9 : Int) == (5 : Int))
         (((True ∧ (True ∧ (True ∧ True)))) ∧
         ((true = true) ∧
         ((Eq (α := List Value) (bCells l) (bCells l)) ∧
         ((Plain (bCells l)) ∧
         True))))
         (br (oXs (tk.inside ty (0 : Int) (9 : Int)) (tk.inside fl (0 : Int) (255 : Int)) (tk.inside st (0 : Int) (2147483647 : Int)) (Row.mk (List.take (List.length l * (1 : Nat)) (List.drop (0 : Nat) (bCells l))) true (Ob.cells true)) == (2 : Int) && (oXc (tk.inside ty (0 : Int) (9 : Int)) (tk.inside fl (0 : Int) (255 : Int)) (tk.inside st (0 : Int) (2147483647 : Int)) (Row.mk (List.take (List.length l * (1 : Nat)) (List.drop (0 : Nat) (bCells l))) true (Ob.cells true)) == (1 : Int) && (oXn (tk.inside ty (0 : Int) (9 : Int)) (tk.inside fl (0 : Int) (255 : Int)) (tk.inside st (0 : Int) (2147483647 : Int)) (Row.mk (List.take (List.length l * (1 : Nat)) (List.drop (0 : Nat) (bCells l))) true (Ob.cells true)) == (0 : Int) && true)))
          (((True ∧ (True ∧ (True ∧ True)))) ∧
          ((true = true) ∧
          ((Eq (α := List Value) (bCells l) (bCells l)) ∧
          ((Plain (bCells l)) ∧
          True))))
          ((true = false) ∧
          ((Eq (α := List Value) (bCells l) (bCells l)) ∧
          ((Plain (bCells l)) ∧
          True))))))
       (br (!tk.inside ty (0 : Int) (9 : Int) == (5 : Int))
        (((True ∧ (True ∧ (True ∧ True)))) ∧
        ((true = true) ∧
        ((Eq (α := List Value) (bCells l) (bCells l)) ∧
        ((Plain (bCells l)) ∧
        True))))
        (br (oXs (tk.inside ty (0 : Int) (9 : Int)) (tk.inside fl (0 : Int) (255 : Int)) (tk.inside st (0 : Int) (2147483647 : Int)) (Row.mk (List.take (List.length l * (1 : Nat)) (List.drop (0 : Nat) (bCells l))) true (Ob.cells true)) == (2 : Int) && (oXc (tk.inside ty (0 : Int) (9 : Int)) (tk.inside fl (0 : Int) (255 : Int)) (tk.inside st (0 : Int) (2147483647 : Int)) (Row.mk (List.take (List.length l * (1 : Nat)) (List.drop (0 : Nat) (bCells l))) true (Ob.cells true)) == (1 : Int) && (oXn (tk.inside ty (0 : Int) (9 : Int)) (tk.inside fl (0 : Int) (255 : Int)) (tk.inside st (0 : Int) (2147483647 : Int)) (Row.mk (List.take (List.length l * (1 : Nat)) (List.drop (0 : Nat) (bCells l))) true (Ob.cells true)) == (0 : Int) && true)))
         (((True ∧ (True ∧ (True ∧ True)))) ∧
         ((true = true) ∧
         ((Eq (α := List Value) (bCells l) (bCells l)) ∧
         ((Plain (bCells l)) ∧
         True))))
         ((true = false) ∧
         ((Eq (α := List Value) (bCells l) (bCells l)) ∧
         ((Plain (bCells l)) ∧
         True)))))))))))))) := by kernel_rfl
theorem eWi_ok : EntOk Try.prog eWi := entC_ok (by
  intro a rows p v news h hp
  split at h <;> simp only [Option.some.injEq, Prod.mk.injEq, reduceCtorEq] at h
  obtain ⟨rfl, rfl, rfl⟩ := h
  exact Go.Proofs.Ytagahikocoggcaa.tk.within_con _ _ _ hp.1 hp.2.1 hp.2.2.1 hp.2.2.2)
theorem eRuns_ok : EntOk Try.prog eRuns := entC_ok (by
  intro a rows p v news h hp
  split at h <;> simp only [Option.some.injEq, Prod.mk.injEq, reduceCtorEq] at h
  obtain ⟨rfl, rfl, rfl⟩ := h
  exact con_run mixed (n := 1000000) (by kernel_rfl) (by kernel_rfl))
theorem tSh_ok : ∀ x ∈ tSh, EntOk Try.prog x := all_cons eOf_ok (all_cons ePa_ok (all_cons eWi_ok (all_cons eRuns_ok (all_nil))))
theorem o_all (ty fl st : Int) (l : List UInt8) : oTy ty fl st ⟨bCells l, true, .cells true⟩ = (shO ty fl st l).y.ty ∧ oSt ty fl st ⟨bCells l, true, .cells true⟩ = (shO ty fl st l).y.st ∧ oE ty fl st ⟨bCells l, true, .cells true⟩ = (shO ty fl st l).y.e ∧ oF ty fl st ⟨bCells l, true, .cells true⟩ = (shO ty fl st l).y.f ∧ oA ty fl st ⟨bCells l, true, .cells true⟩ = (shO ty fl st l).y.a ∧ oCo ty fl st ⟨bCells l, true, .cells true⟩ = (shO ty fl st l).y.co ∧ oLa ty fl st ⟨bCells l, true, .cells true⟩ = (shO ty fl st l).y.la ∧ oMo ty fl st ⟨bCells l, true, .cells true⟩ = (shO ty fl st l).y.mo ∧ oCs ty fl st ⟨bCells l, true, .cells true⟩ = (shO ty fl st l).y.cs ∧ oBn ty fl st ⟨bCells l, true, .cells true⟩ = (shO ty fl st l).b.length ∧ oBc ty fl st ⟨bCells l, true, .cells true⟩ = bCells (shO ty fl st l).b ∧ oSn ty fl st ⟨bCells l, true, .cells true⟩ = (shO ty fl st l).se.length ∧ oSc ty fl st ⟨bCells l, true, .cells true⟩ = gC seC (shO ty fl st l).se ∧ oXs ty fl st ⟨bCells l, true, .cells true⟩ = (shO ty fl st l).sc ∧ oXc ty fl st ⟨bCells l, true, .cells true⟩ = (shO ty fl st l).cd ∧ oXn ty fl st ⟨bCells l, true, .cells true⟩ = (shO ty fl st l).sn := by
  simp only [oTy, oSt, oE, oF, oA, oCo, oLa, oMo, oCs, oBn, oBc, oSn, oSc, oXs, oXc, oXn, dB_mk, and_self]
theorem sh_one (ty fl st : Int) (l : List UInt8) (_ : I64 ty) (_ : I64 fl) (_ : I64 st) (hl : l.length ≤ maxLen) : Con Try.prog 5 [.agg ⟨frCy ty fl st 0 l.length⟩] [bRo l] (.bool true) [bRo l] := by
  refine con_vc (E := EtSh) mixed (calls_envT tSh_ok) (lok_envT _ _) (M := noM) lm_none (One_vc ty fl st l) ?_
  have hm : maxLen = 9223372036854775807 := by unfold maxLen; rfl
  simp only [ofNat_eq, toNat_cast, Nat.zero_add, Nat.add_zero, Nat.mul_one, List.drop_zero, bCells_len, bCells_drop, bCells_take, bCells_app, bCells_one, bCells_plain, List.length_replicate, List.length_append, List.length_take, List.length_drop, List.take_length, and_true, true_and, and_self, decide_true, List.length_nil, List.length_cons, Nat.sub_zero, dB_mk, dB_ro, List.take_zero, o_all, isB_eq, isSe_eq, seTake, seL, sePl, beq_self_eq_true, br_tt0, Nat.le_refl]
  have main : ∀ (m : List UInt8) (n : Int), n = (m.length : Int) → m.length ≤ 16777216 → br ((shO ty fl st m).sc == 0 && ((shO ty fl st m).cd == 0 && ((shO ty fl st m).sn == 0 && true)))
        (br ((shO ty fl st m).y.ty == ty) (br ((shO ty fl st m).y.st == st) (br (decide (((shO ty fl st m).b.length : Int) ≤ n)) (br (decide ((shO ty fl st m).y.cs ≤ n)) True (true = false)) (true = false)) (true = false)) (true = false))
        ((IsB { cells := [], ro := true, ob := Ob.cells true } 0 ∧ IsSe { cells := [], ro := true, ob := Ob.cells true } 0 ∧ (shO ty fl st m).b.length ≤ 9223372036854775807 ∧ (shO ty fl st m).se.length ≤ 9223372036854775807 ∧ bCells (shO ty fl st m).b = [] ∧ gC seC (shO ty fl st m).se = [] ∧ (shO ty fl st m).y.ty = 0 ∧ (shO ty fl st m).y.st = 0 ∧ (shO ty fl st m).y.e = false ∧ (shO ty fl st m).y.f = false ∧ (shO ty fl st m).y.a = false ∧ (shO ty fl st m).y.co = 0 ∧ (shO ty fl st m).y.la = 0 ∧ (shO ty fl st m).y.mo = 0 ∧ (shO ty fl st m).y.cs = 0) ∧
          br ((shO ty fl st m).sc == 2)
            (br ((shO ty fl st m).sn == 0) (br ((shO ty fl st m).cd != 0) True (true = false))
              (br ((shO ty fl st m).sc == 1) (br ((shO ty fl st m).sn == st) (br (st != 0) (br ((shO ty fl st m).cd != 0) True (true = false)) (true = false)) (true = false)) (true = false)))
            (br ((shO ty fl st m).sc == 1) (br ((shO ty fl st m).sn == st) (br (st != 0) (br ((shO ty fl st m).cd != 0) True (true = false)) (true = false)) (true = false)) (true = false))) := by
    intro m n hn hml
    rcases sh_ok ty fl st m with ⟨h1, h2, h3, h4, h5, h6, h7⟩ | ⟨sc, cd, sn, e, h1, h2⟩
    · rw [h1, h2, h3, h4, h5]
      refine br_b (by simp) (br_b (by simp) (br_b (by simp) (br_dec (by omega) (br_dec (by omega) trivial))))
    · rw [e]
      have hf : ((badO sc cd sn).sc == 0 && ((badO sc cd sn).cd == 0 && ((badO sc cd sn).sn == 0 && true))) = false := by simp only [badO]; simp [h1]
      refine br_nb hf ⟨⟨⟨[], rfl, rfl⟩, ⟨[], rfl, rfl⟩, by simp [badO], by simp [badO], rfl, rfl, rfl, rfl, rfl, rfl, rfl, rfl, rfl, rfl, rfl⟩, ?_⟩
      simp only [badO]
      rcases h2 with ⟨rfl, rfl⟩ | ⟨rfl, rfl, h3⟩
      · exact br_b rfl (br_b rfl (br_b (by simpa using h1) trivial))
      · exact br_nb rfl (br_b rfl (br_b (by simp) (br_b (by simpa using h3) (br_b (by simpa using h1) trivial))))
  refine br_if (fun h => br_dec (by omega) ⟨⟨by omega, isB_mk _ _ (by simp; omega), by decide⟩, main _ _ (by simp; omega) (by simp; omega)⟩) (fun h => ⟨by omega, main _ _ rfl (by omega)⟩)
theorem sh_zero (ty fl st : Int) (l : List UInt8) (_ : I64 ty) (_ : I64 fl) (_ : I64 st) (hl : l.length ≤ maxLen) : Con Try.prog 8 [.int .i64 ty, .int .i64 fl, .int .i64 st, .slice (some ⟨0, 0, none⟩) l.length 1] [bRo l] (.bool true) [bRo l] := by
  refine con_vc (E := EtSh) mixed (calls_envT tSh_ok) (lok_envT _ _) (M := noM) lm_none (Zero_vc ty fl st l) ?_
  have hm : maxLen = 9223372036854775807 := by unfold maxLen; rfl
  simp only [ofNat_eq, toNat_cast, Nat.zero_add, Nat.add_zero, Nat.mul_one, List.drop_zero, bCells_len, bCells_drop, bCells_take, bCells_app, bCells_one, bCells_plain, List.length_replicate, List.length_append, List.length_take, List.length_drop, List.take_length, and_true, true_and, and_self, decide_true, List.length_nil, List.length_cons, Nat.sub_zero, dB_mk, dB_ro, List.take_zero, o_all, isB_eq, isSe_eq, seTake, seL, sePl, beq_self_eq_true, br_tt0, Nat.le_refl]
  obtain ⟨t1, t2⟩ := Go.Proofs.Ytagahikocoggcaa.tk.inside_in ty 0 9 (by omega)
  obtain ⟨f1, f2⟩ := Go.Proofs.Ytagahikocoggcaa.tk.inside_in fl 0 255 (by omega)
  obtain ⟨s1, s2⟩ := Go.Proofs.Ytagahikocoggcaa.tk.inside_in st 0 2147483647 (by omega)
  generalize Go.Proofs.Ytagahikocoggcaa.tk.inside ty 0 9 = t at *
  generalize Go.Proofs.Ytagahikocoggcaa.tk.inside fl 0 255 = f at *
  generalize Go.Proofs.Ytagahikocoggcaa.tk.inside st 0 2147483647 = s at *
  have ib : l.length > 300 → IsB ⟨bCells (List.take 300 l), true, .cells true⟩ 300 := fun h => isB_mk _ _ (by simp; omega)
  have hx : ∀ m : List UInt8, m.length ≤ 300 → misB t s = true → ((shO t f s m).sc == 2 && ((shO t f s m).cd == 1 && ((shO t f s m).sn == 0 && true))) = true := by
    intro m hm h
    have hr : rightB t f s m.length = true := by unfold rightB; simp; omega
    have : shO t f s m = badO 2 1 0 := by unfold shO; rw [if_neg (by rw [hr]; simp; omega), if_pos h]
    rw [this]; rfl
  refine ⟨⟨‹_›, by omega, by omega, by omega⟩, ⟨‹_›, by omega, by omega, by omega⟩, ⟨‹_›, by omega, by omega, by omega⟩, ?_⟩
  have i3 : (Int.toNat 300 ≤ 16777216) = True := eq_true (by decide)
  cases hmis : misB t s with
  | true =>
    refine br_if (fun h => br_dec (by omega) ?_) (fun h => ?_)
    · have e3 : (300 ≤ l.length) = True := eq_true (by omega)
      have e4 : IsB ⟨bCells (List.take 300 l), true, .cells true⟩ 300 = True := eq_true (ib (by omega))
      simp only [hx _ (show (List.take 300 l).length ≤ 300 by simp; omega) hmis, e3, e4, i3, and_true, true_and, br_tt0, br_TT]
    · have e3 : (l.length ≤ 16777216) = True := eq_true (by omega)
      simp only [hx l (by omega) hmis, e3, and_true, true_and, br_tt0, br_TT]
  | false =>
    have hm2 : ¬ (t = 5 ∨ ((t = 4 ∨ t = 6 ∨ t = 7) ∧ s ≠ 0) ∨ (¬ (t = 4 ∨ t = 6 ∨ t = 7) ∧ t ≠ 8 ∧ s = 0)) := by
      unfold misB ownT at hmis; simpa using hmis
    refine br_if (fun h => br_dec (by omega) ?_) (fun h => ?_)
    · have e3 : (300 ≤ l.length) = True := eq_true (by omega)
      have e4 : IsB ⟨bCells (List.take 300 l), true, .cells true⟩ 300 = True := eq_true (ib (by omega))
      simp only [e3, e4, i3, and_true, true_and]
      generalize ((shO t f s (List.take 300 l)).sc == 2 && ((shO t f s (List.take 300 l)).cd == 1 && ((shO t f s (List.take 300 l)).sn == 0 && true))) = X
      (repeat' (refine br_intro (fun h => ?_) (fun h => ?_))) <;> first | trivial | (exfalso; simp at * <;> omega)
    · have e3 : (l.length ≤ 16777216) = True := eq_true (by omega)
      simp only [e3, and_true, true_and]
      generalize ((shO t f s l).sc == 2 && ((shO t f s l).cd == 1 && ((shO t f s l).sn == 0 && true))) = X
      (repeat' (refine br_intro (fun h => ?_) (fun h => ?_))) <;> first | trivial | (exfalso; simp at * <;> omega)
end Go.Proofs.Ytagahikocoggcaa.sh
