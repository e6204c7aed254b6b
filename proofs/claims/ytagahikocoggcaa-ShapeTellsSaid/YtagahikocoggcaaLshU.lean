/- The document's own part of a frame is the part that a frame says. -/
import Derived.Test.YtagahikocoggcaaSz9
import Derived.Test.YtagahikocoggcaaRows
import Derived.Test.YtagahikocoggcaaLshT
set_option maxRecDepth 20000
set_option linter.unusedSimpArgs false
set_option linter.unusedVariables false
namespace Go.Proofs.Ytagahikocoggcaa.sh
open Go Go.Ev Go.Sy Go.RowKit Go.Proofs.Ytagahikocoggcaa.gl
noncomputable def tRsh : List EntM := [eRst, eLong, eFour, eAll, eRrt]
noncomputable abbrev EtRsh : Env := envT Try.prog tRsh
theorem Rsh_vc (y : PtY) (ty fl st sc cd sn : Int) (l o : List UInt8) (s : List Se) : mcall EtRsh noM 60 15 [.agg ⟨frCy ty fl st 0 l.length⟩] ⟨mkR (nums 0 [bRo l]), 1⟩ (retIs 1 (.tuple #[.agg ⟨ptCy y 1 o.length 2 s.length⟩, .agg ⟨[.int .i64 sc, .int .i64 cd, .int .i64 sn]⟩]) [bRo l, bOwn o, gOwn seC s]) =
  (((((True ∧ (True ∧ (True ∧ (((0 : Nat) + List.length l * (1 : Nat) ≤ List.length (bCells l) ∧ Plain (List.take (List.length l * (1 : Nat)) (List.drop (0 : Nat) (bCells l)))) ∧ True)))) ∧ True) ∧ ((True ∧ True) ∧ (True ∧ IsB (Row.mk (List.take (List.length l * (1 : Nat)) (List.drop (0 : Nat) (bCells l))) true (Ob.cells true)) (List.length l))))) ∧
  (br (!rightB ty fl st (List.length l))
   ((y.1 = ty) ∧
   ((y.2 = st) ∧
   ((y.3 = false) ∧
   ((y.4 = false) ∧
   ((y.5 = false) ∧
   ((List.length o = (0 : Nat)) ∧
   ((y.6 = (0 : Int)) ∧
   ((y.7 = (0 : Int)) ∧
   ((y.8 = (0 : Int)) ∧
   ((y.9 = (0 : Int)) ∧
   ((List.length s = (0 : Nat)) ∧
   ((sc = (0 : Int)) ∧
   ((cd = (0 : Int)) ∧
   ((sn = (0 : Int)) ∧
   ((Eq (α := List Value) (bCells l) (bCells l)) ∧
   ((Plain (bCells l)) ∧
   ((Eq (α := List Value) (bCells o) ([])) ∧
   ((Eq (α := List Value) (gC seC s) ([])) ∧
   True))))))))))))))))))
   (br (decide (ty > (9 : Int)))
    ((y.1 = ty) ∧
    ((y.2 = st) ∧
    ((y.3 = false) ∧
    ((y.4 = false) ∧
    ((y.5 = false) ∧
    ((List.length o = (0 : Nat)) ∧
    ((y.6 = (0 : Int)) ∧
    ((y.7 = (0 : Int)) ∧
    ((y.8 = (0 : Int)) ∧
    ((y.9 = (0 : Int)) ∧
    ((List.length s = (0 : Nat)) ∧
    ((sc = (0 : Int)) ∧
    ((cd = (0 : Int)) ∧
    ((sn = (0 : Int)) ∧
    ((Eq (α := List Value) (bCells l) (bCells l)) ∧
    ((Plain (bCells l)) ∧
    ((Eq (α := List Value) (bCells o) ([])) ∧
    ((Eq (α := List Value) (gC seC s) ([])) ∧
    True))))))))))))))))))
    (br (ty == (4 : Int))
     (br (st != (0 : Int))
      ((y.1 = (0 : Int)) ∧
      ((y.2 = (0 : Int)) ∧
      ((y.3 = false) ∧
      ((y.4 = false) ∧
      ((y.5 = false) ∧
      ((List.length o = (0 : Nat)) ∧
      ((y.6 = (0 : Int)) ∧
      ((y.7 = (0 : Int)) ∧
      ((y.8 = (0 : Int)) ∧
      ((y.9 = (0 : Int)) ∧
      ((List.length s = (0 : Nat)) ∧
      ((sc = (2 : Int)) ∧
      ((cd = (1 : Int)) ∧
      ((sn = (0 : Int)) ∧
      ((Eq (α := List Value) (bCells l) (bCells l)) ∧
      ((Plain (bCells l)) ∧
      ((Eq (α := List Value) (bCells o) ([])) ∧
      ((Eq (α := List Value) (gC seC s) ([])) ∧
      True))))))))))))))))))
      (br (ty == (5 : Int))
       ((y.1 = (0 : Int)) ∧
       ((y.2 = (0 : Int)) ∧
       ((y.3 = false) ∧
       ((y.4 = false) ∧
       ((y.5 = false) ∧
       ((List.length o = (0 : Nat)) ∧
       ((y.6 = (0 : Int)) ∧
       ((y.7 = (0 : Int)) ∧
       ((y.8 = (0 : Int)) ∧
       ((y.9 = (0 : Int)) ∧
       ((List.length s = (0 : Nat)) ∧
       ((sc = (2 : Int)) ∧
       ((cd = (1 : Int)) ∧
       ((sn = (0 : Int)) ∧
       ((Eq (α := List Value) (bCells l) (bCells l)) ∧
       ((Plain (bCells l)) ∧
       ((Eq (α := List Value) (bCells o) ([])) ∧
       ((Eq (α := List Value) (gC seC s) ([])) ∧
       True))))))))))))))))))
       (br (ty == (0 : Int))
        (((((True ∧ (True ∧ (True ∧ (((0 : Nat) + List.length l * (1 : Nat) ≤ List.length (bCells l) ∧ Plain (List.take (List.length l * (1 : Nat)) (List.drop (0 : Nat) (bCells l)))) ∧ True)))) ∧ ((True ∧ (True ∧ (True ∧ (True ∧ (True ∧ (True ∧ (True ∧ (True ∧ (True ∧ (True ∧ (True ∧ True))))))))))) ∧ True)) ∧ ((True ∧ True) ∧ ((Plain (lBc ty fl st (Row.mk (List.take (List.length l * (1 : Nat)) (List.drop (0 : Nat) (bCells l))) true (Ob.cells true))) ∧ True) ∧ (IsB (Row.mk (List.take (List.length l * (1 : Nat)) (List.drop (0 : Nat) (bCells l))) true (Ob.cells true)) (List.length l) ∧ (List.length l ≤ (16777216 : Nat) ∧ Ty01 ty)))))) ∧
        ((y.1 = lI ty ty fl st (Row.mk (List.take (List.length l * (1 : Nat)) (List.drop (0 : Nat) (bCells l))) true (Ob.cells true))) ∧
        ((y.2 = lI st ty fl st (Row.mk (List.take (List.length l * (1 : Nat)) (List.drop (0 : Nat) (bCells l))) true (Ob.cells true))) ∧
        ((y.3 = lE ty fl st (Row.mk (List.take (List.length l * (1 : Nat)) (List.drop (0 : Nat) (bCells l))) true (Ob.cells true))) ∧
        ((y.4 = lF false ty fl st (Row.mk (List.take (List.length l * (1 : Nat)) (List.drop (0 : Nat) (bCells l))) true (Ob.cells true))) ∧
        ((y.5 = lZ false ty fl st (Row.mk (List.take (List.length l * (1 : Nat)) (List.drop (0 : Nat) (bCells l))) true (Ob.cells true))) ∧
        (((0 : Nat) = (0 : Nat)) ∧
        ((List.length o = lBn ty fl st (Row.mk (List.take (List.length l * (1 : Nat)) (List.drop (0 : Nat) (bCells l))) true (Ob.cells true))) ∧
        ((y.6 = lI (0 : Int) ty fl st (Row.mk (List.take (List.length l * (1 : Nat)) (List.drop (0 : Nat) (bCells l))) true (Ob.cells true))) ∧
        ((y.7 = lI (0 : Int) ty fl st (Row.mk (List.take (List.length l * (1 : Nat)) (List.drop (0 : Nat) (bCells l))) true (Ob.cells true))) ∧
        ((y.8 = lI (0 : Int) ty fl st (Row.mk (List.take (List.length l * (1 : Nat)) (List.drop (0 : Nat) (bCells l))) true (Ob.cells true))) ∧
        ((y.9 = lCs (0 : Int) ty fl st (Row.mk (List.take (List.length l * (1 : Nat)) (List.drop (0 : Nat) (bCells l))) true (Ob.cells true))) ∧
        ((List.length s = (0 : Nat)) ∧
        ((sc = lScR ty fl st (Row.mk (List.take (List.length l * (1 : Nat)) (List.drop (0 : Nat) (bCells l))) true (Ob.cells true))) ∧
        ((cd = lCdR ty fl st (Row.mk (List.take (List.length l * (1 : Nat)) (List.drop (0 : Nat) (bCells l))) true (Ob.cells true))) ∧
        ((sn = lSnR ty fl st (Row.mk (List.take (List.length l * (1 : Nat)) (List.drop (0 : Nat) (bCells l))) true (Ob.cells true))) ∧
        ((Eq (α := List Value) (bCells l) (bCells l)) ∧
        ((Plain (bCells l)) ∧
        ((Eq (α := List Value) (bCells o) (lBc ty fl st (Row.mk (List.take (List.length l * (1 : Nat)) (List.drop (0 : Nat) (bCells l))) true (Ob.cells true)))) ∧
        ((Plain (bCells o)) ∧
        ((Eq (α := List Value) (gC seC s) ([])) ∧
        True)))))))))))))))))))))
        (br (ty == (1 : Int))
         (((((True ∧ (True ∧ (True ∧ (((0 : Nat) + List.length l * (1 : Nat) ≤ List.length (bCells l) ∧ Plain (List.take (List.length l * (1 : Nat)) (List.drop (0 : Nat) (bCells l)))) ∧ True)))) ∧ ((True ∧ (True ∧ (True ∧ (True ∧ (True ∧ (True ∧ (True ∧ (True ∧ (True ∧ (True ∧ (True ∧ True))))))))))) ∧ True)) ∧ ((True ∧ True) ∧ ((Plain (lBc ty fl st (Row.mk (List.take (List.length l * (1 : Nat)) (List.drop (0 : Nat) (bCells l))) true (Ob.cells true))) ∧ True) ∧ (IsB (Row.mk (List.take (List.length l * (1 : Nat)) (List.drop (0 : Nat) (bCells l))) true (Ob.cells true)) (List.length l) ∧ (List.length l ≤ (16777216 : Nat) ∧ Ty01 ty)))))) ∧
         ((y.1 = lI ty ty fl st (Row.mk (List.take (List.length l * (1 : Nat)) (List.drop (0 : Nat) (bCells l))) true (Ob.cells true))) ∧
         ((y.2 = lI st ty fl st (Row.mk (List.take (List.length l * (1 : Nat)) (List.drop (0 : Nat) (bCells l))) true (Ob.cells true))) ∧
         ((y.3 = lE ty fl st (Row.mk (List.take (List.length l * (1 : Nat)) (List.drop (0 : Nat) (bCells l))) true (Ob.cells true))) ∧
         ((y.4 = lF false ty fl st (Row.mk (List.take (List.length l * (1 : Nat)) (List.drop (0 : Nat) (bCells l))) true (Ob.cells true))) ∧
         ((y.5 = lZ false ty fl st (Row.mk (List.take (List.length l * (1 : Nat)) (List.drop (0 : Nat) (bCells l))) true (Ob.cells true))) ∧
         (((0 : Nat) = (0 : Nat)) ∧
         ((List.length o = lBn ty fl st (Row.mk (List.take (List.length l * (1 : Nat)) (List.drop (0 : Nat) (bCells l))) true (Ob.cells true))) ∧
         ((y.6 = lI (0 : Int) ty fl st (Row.mk (List.take (List.length l * (1 : Nat)) (List.drop (0 : Nat) (bCells l))) true (Ob.cells true))) ∧
         ((y.7 = lI (0 : Int) ty fl st (Row.mk (List.take (List.length l * (1 : Nat)) (List.drop (0 : Nat) (bCells l))) true (Ob.cells true))) ∧
         ((y.8 = lI (0 : Int) ty fl st (Row.mk (List.take (List.length l * (1 : Nat)) (List.drop (0 : Nat) (bCells l))) true (Ob.cells true))) ∧
         ((y.9 = lCs (0 : Int) ty fl st (Row.mk (List.take (List.length l * (1 : Nat)) (List.drop (0 : Nat) (bCells l))) true (Ob.cells true))) ∧
         ((List.length s = (0 : Nat)) ∧
         ((sc = lScR ty fl st (Row.mk (List.take (List.length l * (1 : Nat)) (List.drop (0 : Nat) (bCells l))) true (Ob.cells true))) ∧
         ((cd = lCdR ty fl st (Row.mk (List.take (List.length l * (1 : Nat)) (List.drop (0 : Nat) (bCells l))) true (Ob.cells true))) ∧
         ((sn = lSnR ty fl st (Row.mk (List.take (List.length l * (1 : Nat)) (List.drop (0 : Nat) (bCells l))) true (Ob.cells true))) ∧
         ((Eq (α := List Value) (bCells l) (bCells l)) ∧
         ((Plain (bCells l)) ∧
         ((Eq (α := List Value) (bCells o) (lBc ty fl st (Row.mk (List.take (List.length l * (1 : Nat)) (List.drop (0 : Nat) (bCells l))) true (Ob.cells true)))) ∧
         ((Plain (bCells o)) ∧
         ((Eq (α := List Value) (gC seC s) ([])) ∧
         True)))))))))))))))))))))
         (br (ty == (2 : Int))
          (br (Int.ofNat (List.length l) != (5 : Int))
           ((y.1 = (0 : Int)) ∧
           ((y.2 = (0 : Int)) ∧
           ((y.3 = false) ∧
           ((y.4 = false) ∧
           ((y.5 = false) ∧
           ((List.length o = (0 : Nat)) ∧
           ((y.6 = (0 : Int)) ∧
           ((y.7 = (0 : Int)) ∧
           ((y.8 = (0 : Int)) ∧
           ((y.9 = (0 : Int)) ∧
           ((List.length s = (0 : Nat)) ∧
           ((sc = (1 : Int)) ∧
           ((cd = (6 : Int)) ∧
           ((sn = st) ∧
           ((Eq (α := List Value) (bCells l) (bCells l)) ∧
           ((Plain (bCells l)) ∧
           ((Eq (α := List Value) (bCells o) ([])) ∧
           ((Eq (α := List Value) (gC seC s) ([])) ∧
           True))))))))))))))))))
           ((((((0 : Nat) + List.length l * (1 : Nat) ≤ List.length (bCells l) ∧ Plain (List.take (List.length l * (1 : Nat)) (List.drop (0 : Nat) (bCells l)))) ∧ True) ∧ ((True ∧ True) ∧ (True ∧ (IsB (Row.mk (List.take (List.length l * (1 : Nat)) (List.drop (0 : Nat) (bCells l))) true (Ob.cells true)) (List.length l) ∧ ((4 : Nat) ≤ List.length l ∧ List.length l ≤ (9223372036854775807 : Nat))))))) ∧
           ((Value.int IntKind.i64 st = Value.int IntKind.i64 st) ∧
           ((Value.int IntKind.i64 st = Value.int IntKind.i64 st) ∧
           (br (low4R (Row.mk (List.take (List.length l * (1 : Nat)) (List.drop (0 : Nat) (bCells l))) true (Ob.cells true)) == st)
            ((y.1 = (0 : Int)) ∧
            ((y.2 = (0 : Int)) ∧
            ((y.3 = false) ∧
            ((y.4 = false) ∧
            ((y.5 = false) ∧
            ((List.length o = (0 : Nat)) ∧
            ((y.6 = (0 : Int)) ∧
            ((y.7 = (0 : Int)) ∧
            ((y.8 = (0 : Int)) ∧
            ((y.9 = (0 : Int)) ∧
            ((List.length s = (0 : Nat)) ∧
            ((sc = (1 : Int)) ∧
            ((cd = (1 : Int)) ∧
            ((sn = st) ∧
            ((Eq (α := List Value) (bCells l) (bCells l)) ∧
            ((Plain (bCells l)) ∧
            ((Eq (α := List Value) (bCells o) ([])) ∧
            ((Eq (α := List Value) (gC seC s) ([])) ∧
            True))))))))))))))))))
            ((y.1 = ty) ∧
            ((y.2 = st) ∧
            ((y.3 = false) ∧
            ((y.4 = false) ∧
            ((y.5 = false) ∧
            ((List.length o = (0 : Nat)) ∧
            ((y.6 = (0 : Int)) ∧
            ((y.7 = (0 : Int)) ∧
            ((y.8 = (0 : Int)) ∧
            ((y.9 = (0 : Int)) ∧
            ((List.length s = (0 : Nat)) ∧
            ((sc = (0 : Int)) ∧
            ((cd = (0 : Int)) ∧
            ((sn = (0 : Int)) ∧
            ((Eq (α := List Value) (bCells l) (bCells l)) ∧
            ((Plain (bCells l)) ∧
            ((Eq (α := List Value) (bCells o) ([])) ∧
            ((Eq (α := List Value) (gC seC s) ([])) ∧
            True)))))))))))))))))))))))
          (br (ty == (3 : Int))
           (br (Int.ofNat (List.length l) != (4 : Int))
            ((y.1 = (0 : Int)) ∧
            ((y.2 = (0 : Int)) ∧
            ((y.3 = false) ∧
            ((y.4 = false) ∧
            ((y.5 = false) ∧
            ((List.length o = (0 : Nat)) ∧
            ((y.6 = (0 : Int)) ∧
            ((y.7 = (0 : Int)) ∧
            ((y.8 = (0 : Int)) ∧
            ((y.9 = (0 : Int)) ∧
            ((List.length s = (0 : Nat)) ∧
            ((sc = (2 : Int)) ∧
            ((cd = (6 : Int)) ∧
            ((sn = (0 : Int)) ∧
            ((Eq (α := List Value) (bCells l) (bCells l)) ∧
            ((Plain (bCells l)) ∧
            ((Eq (α := List Value) (bCells o) ([])) ∧
            ((Eq (α := List Value) (gC seC s) ([])) ∧
            True))))))))))))))))))
            ((((((0 : Nat) + List.length l * (1 : Nat) ≤ List.length (bCells l) ∧ Plain (List.take (List.length l * (1 : Nat)) (List.drop (0 : Nat) (bCells l)))) ∧ True) ∧ ((True ∧ True) ∧ (True ∧ (IsB (Row.mk (List.take (List.length l * (1 : Nat)) (List.drop (0 : Nat) (bCells l))) true (Ob.cells true)) (List.length l) ∧ ((4 : Nat) ≤ List.length l ∧ List.length l ≤ (9223372036854775807 : Nat))))))) ∧
            ((y.1 = ty) ∧
            ((y.2 = st) ∧
            ((y.3 = false) ∧
            ((y.4 = false) ∧
            ((y.5 = false) ∧
            ((List.length o = (0 : Nat)) ∧
            ((y.6 = num4R (Row.mk (List.take (List.length l * (1 : Nat)) (List.drop (0 : Nat) (bCells l))) true (Ob.cells true))) ∧
            ((y.7 = (0 : Int)) ∧
            ((y.8 = (0 : Int)) ∧
            ((y.9 = (0 : Int)) ∧
            ((List.length s = (0 : Nat)) ∧
            ((sc = (0 : Int)) ∧
            ((cd = (0 : Int)) ∧
            ((sn = (0 : Int)) ∧
            ((Eq (α := List Value) (bCells l) (bCells l)) ∧
            ((Plain (bCells l)) ∧
            ((Eq (α := List Value) (bCells o) ([])) ∧
            ((Eq (α := List Value) (gC seC s) ([])) ∧
            True))))))))))))))))))))
           (br (ty == (4 : Int))
            (((((True ∧ (True ∧ (True ∧ (((0 : Nat) + List.length l * (1 : Nat) ≤ List.length (bCells l) ∧ Plain (List.take (List.length l * (1 : Nat)) (List.drop (0 : Nat) (bCells l)))) ∧ True)))) ∧ ((True ∧ (True ∧ (True ∧ (True ∧ (True ∧ (True ∧ (True ∧ (True ∧ (True ∧ (True ∧ (True ∧ True))))))))))) ∧ True)) ∧ ((True ∧ True) ∧ ((Plain (rsC fl (Row.mk (List.take (List.length l * (1 : Nat)) (List.drop (0 : Nat) (bCells l))) true (Ob.cells true))) ∧ True) ∧ (IsB (Row.mk (List.take (List.length l * (1 : Nat)) (List.drop (0 : Nat) (bCells l))) true (Ob.cells true)) (List.length l) ∧ List.length l ≤ (16777216 : Nat)))))) ∧
            ((y.1 = rsI ty fl (Row.mk (List.take (List.length l * (1 : Nat)) (List.drop (0 : Nat) (bCells l))) true (Ob.cells true))) ∧
            ((y.2 = rsI st fl (Row.mk (List.take (List.length l * (1 : Nat)) (List.drop (0 : Nat) (bCells l))) true (Ob.cells true))) ∧
            ((y.3 = rsB false fl (Row.mk (List.take (List.length l * (1 : Nat)) (List.drop (0 : Nat) (bCells l))) true (Ob.cells true))) ∧
            ((y.4 = rsB false fl (Row.mk (List.take (List.length l * (1 : Nat)) (List.drop (0 : Nat) (bCells l))) true (Ob.cells true))) ∧
            ((y.5 = rsB (bit fl (1 : Int)) fl (Row.mk (List.take (List.length l * (1 : Nat)) (List.drop (0 : Nat) (bCells l))) true (Ob.cells true))) ∧
            ((List.length o = (0 : Nat)) ∧
            ((y.6 = rsI (0 : Int) fl (Row.mk (List.take (List.length l * (1 : Nat)) (List.drop (0 : Nat) (bCells l))) true (Ob.cells true))) ∧
            ((y.7 = rsI (0 : Int) fl (Row.mk (List.take (List.length l * (1 : Nat)) (List.drop (0 : Nat) (bCells l))) true (Ob.cells true))) ∧
            ((y.8 = rsI (0 : Int) fl (Row.mk (List.take (List.length l * (1 : Nat)) (List.drop (0 : Nat) (bCells l))) true (Ob.cells true))) ∧
            ((y.9 = rsI (0 : Int) fl (Row.mk (List.take (List.length l * (1 : Nat)) (List.drop (0 : Nat) (bCells l))) true (Ob.cells true))) ∧
            (((0 : Nat) = (0 : Nat)) ∧
            ((List.length s = rsN fl (Row.mk (List.take (List.length l * (1 : Nat)) (List.drop (0 : Nat) (bCells l))) true (Ob.cells true))) ∧
            ((sc = stScR fl (Row.mk (List.take (List.length l * (1 : Nat)) (List.drop (0 : Nat) (bCells l))) true (Ob.cells true))) ∧
            ((cd = stCdR fl (Row.mk (List.take (List.length l * (1 : Nat)) (List.drop (0 : Nat) (bCells l))) true (Ob.cells true))) ∧
            ((sn = (0 : Int)) ∧
            ((Eq (α := List Value) (bCells l) (bCells l)) ∧
            ((Plain (bCells l)) ∧
            ((Eq (α := List Value) (bCells o) ([])) ∧
            ((Eq (α := List Value) (gC seC s) (rsC fl (Row.mk (List.take (List.length l * (1 : Nat)) (List.drop (0 : Nat) (bCells l))) true (Ob.cells true)))) ∧
            ((Plain (gC seC s)) ∧
            True)))))))))))))))))))))
            (br (ty == (6 : Int))
             (br (Int.ofNat (List.length l) != (8 : Int))
              ((y.1 = (0 : Int)) ∧
              ((y.2 = (0 : Int)) ∧
              ((y.3 = false) ∧
              ((y.4 = false) ∧
              ((y.5 = false) ∧
              ((List.length o = (0 : Nat)) ∧
              ((y.6 = (0 : Int)) ∧
              ((y.7 = (0 : Int)) ∧
              ((y.8 = (0 : Int)) ∧
              ((y.9 = (0 : Int)) ∧
              ((List.length s = (0 : Nat)) ∧
              ((sc = (2 : Int)) ∧
              ((cd = (6 : Int)) ∧
              ((sn = (0 : Int)) ∧
              ((Eq (α := List Value) (bCells l) (bCells l)) ∧
              ((Plain (bCells l)) ∧
              ((Eq (α := List Value) (bCells o) ([])) ∧
              ((Eq (α := List Value) (gC seC s) ([])) ∧
              True))))))))))))))))))
              (br (decide ((0 : Nat) + List.length l * (1 : Nat) ≤ List.length (bCells l)))
               (br (allOne (List.take (List.length l * (1 : Nat)) (List.drop (0 : Nat) (bCells l))))
                (br (decide ((0 : Nat) + List.length l ≤ (16777216 : Nat)))
                 ((Value.int IntKind.i64 fl = Value.int IntKind.i64 fl) ∧
                 ((Value.int IntKind.i64 fl = Value.int IntKind.i64 fl) ∧
                 ((y.1 = ty) ∧
                 ((y.2 = st) ∧
                 ((y.3 = false) ∧
                 ((y.4 = false) ∧
                 ((y.5 = (iand IntKind.i64 fl (1 : Int) != (0 : Int))) ∧
                 (((0 : Nat) = (0 : Nat)) ∧
                 ((List.length o = (0 : Nat) + List.length l) ∧
                 ((y.6 = (0 : Int)) ∧
                 ((y.7 = (0 : Int)) ∧
                 ((y.8 = (0 : Int)) ∧
                 ((y.9 = (0 : Int)) ∧
                 ((List.length s = (0 : Nat)) ∧
                 ((sc = (0 : Int)) ∧
                 ((cd = (0 : Int)) ∧
                 ((sn = (0 : Int)) ∧
                 ((Eq (α := List Value) (bCells l) (bCells l)) ∧
                 ((Plain (bCells l)) ∧
                 ((Eq (α := List Value) (bCells o) ([] ++ List.take (List.length l * (1 : Nat)) (List.drop (0 : Nat) (bCells l)))) ∧
                 ((Plain (bCells o)) ∧
                 ((Eq (α := List Value) (gC seC s) ([])) ∧
                 True))))))))))))))))))))))
                 False)
                False)
               False))
             (br (ty == (7 : Int))
              (br (decide (Int.ofNat (List.length l) < (8 : Int)))
               ((y.1 = (0 : Int)) ∧
               ((y.2 = (0 : Int)) ∧
               ((y.3 = false) ∧
               ((y.4 = false) ∧
               ((y.5 = false) ∧
               ((List.length o = (0 : Nat)) ∧
               ((y.6 = (0 : Int)) ∧
               ((y.7 = (0 : Int)) ∧
               ((y.8 = (0 : Int)) ∧
               ((y.9 = (0 : Int)) ∧
               ((List.length s = (0 : Nat)) ∧
               ((sc = (2 : Int)) ∧
               ((cd = (6 : Int)) ∧
               ((sn = (0 : Int)) ∧
               ((Eq (α := List Value) (bCells l) (bCells l)) ∧
               ((Plain (bCells l)) ∧
               ((Eq (α := List Value) (bCells o) ([])) ∧
               ((Eq (α := List Value) (gC seC s) ([])) ∧
               True))))))))))))))))))
               ((((((0 : Nat) + List.length l * (1 : Nat) ≤ List.length (bCells l) ∧ Plain (List.take (List.length l * (1 : Nat)) (List.drop (0 : Nat) (bCells l)))) ∧ True) ∧ ((True ∧ True) ∧ (True ∧ (IsB (Row.mk (List.take (List.length l * (1 : Nat)) (List.drop (0 : Nat) (bCells l))) true (Ob.cells true)) (List.length l) ∧ ((4 : Nat) ≤ List.length l ∧ List.length l ≤ (9223372036854775807 : Nat))))))) ∧
               (br (decide ((0 : Int) ≤ (4 : Int) ∧ (4 : Int) ≤ (↑(List.length l) : Int) ∧ (↑(List.length l) : Int) ≤ (↑(List.length l) : Int)))
                ((((((4 : Nat) + (Int.toNat (↑(List.length l) : Int) - (4 : Nat)) * (1 : Nat) ≤ List.length (bCells l) ∧ Plain (List.take ((Int.toNat (↑(List.length l) : Int) - (4 : Nat)) * (1 : Nat)) (List.drop (4 : Nat) (bCells l)))) ∧ True) ∧ ((True ∧ True) ∧ (True ∧ (IsB (Row.mk (List.take ((Int.toNat (↑(List.length l) : Int) - (4 : Nat)) * (1 : Nat)) (List.drop (4 : Nat) (bCells l))) true (Ob.cells true)) (Int.toNat (↑(List.length l) : Int) - (4 : Nat)) ∧ ((4 : Nat) ≤ Int.toNat (↑(List.length l) : Int) - (4 : Nat) ∧ Int.toNat (↑(List.length l) : Int) - (4 : Nat) ≤ (9223372036854775807 : Nat))))))) ∧
                (br (decide ((0 : Int) ≤ (8 : Int) ∧ (8 : Int) ≤ (↑(List.length l) : Int) ∧ (↑(List.length l) : Int) ≤ (↑(List.length l) : Int)))
                 (br (decide ((8 : Nat) + (Int.toNat (↑(List.length l) : Int) - (8 : Nat)) * (1 : Nat) ≤ List.length (bCells l)))
                  (br (allOne (List.take ((Int.toNat (↑(List.length l) : Int) - (8 : Nat)) * (1 : Nat)) (List.drop (8 : Nat) (bCells l))))
                   (br (decide ((0 : Nat) + (Int.toNat (↑(List.length l) : Int) - (8 : Nat)) ≤ (16777216 : Nat)))
                    (br (decide ((0 : Int) ≤ (4 : Int) ∧ (4 : Int) ≤ (↑(List.length l) : Int) ∧ (↑(List.length l) : Int) ≤ (↑(List.length l) : Int)))
                     ((Value.slice (some (Addr.mk (0 : Nat) (4 : Nat) none)) (Int.toNat (↑(List.length l) : Int) - (4 : Nat)) (1 : Nat) = Value.slice (some (Addr.mk (0 : Nat) (4 : Nat) none)) (Int.toNat (↑(List.length l) : Int) - (4 : Nat)) (1 : Nat)) ∧
                     (br (decide ((0 : Int) ≤ (4 : Int) ∧ (4 : Int) ≤ (↑(List.length l) : Int) ∧ (↑(List.length l) : Int) ≤ (↑(List.length l) : Int)))
                      ((Value.slice (some (Addr.mk (0 : Nat) (4 : Nat) none)) (Int.toNat (↑(List.length l) : Int) - (4 : Nat)) (1 : Nat) = Value.slice (some (Addr.mk (0 : Nat) (4 : Nat) none)) (Int.toNat (↑(List.length l) : Int) - (4 : Nat)) (1 : Nat)) ∧
                      (br (decide ((0 : Int) ≤ (8 : Int) ∧ (8 : Int) ≤ (↑(List.length l) : Int) ∧ (↑(List.length l) : Int) ≤ (↑(List.length l) : Int)))
                       ((Value.slice (some (Addr.mk (0 : Nat) (8 : Nat) none)) (Int.toNat (↑(List.length l) : Int) - (8 : Nat)) (1 : Nat) = Value.slice (some (Addr.mk (0 : Nat) (8 : Nat) none)) (Int.toNat (↑(List.length l) : Int) - (8 : Nat)) (1 : Nat)) ∧
                       (br (decide ((0 : Int) ≤ (8 : Int) ∧ (8 : Int) ≤ (↑(List.length l) : Int) ∧ (↑(List.length l) : Int) ≤ (↑(List.length l) : Int)))
                        ((Value.slice (some (Addr.mk (0 : Nat) (8 : Nat) none)) (Int.toNat (↑(List.length l) : Int) - (8 : Nat)) (1 : Nat) = Value.slice (some (Addr.mk (0 : Nat) (8 : Nat) none)) (Int.toNat (↑(List.length l) : Int) - (8 : Nat)) (1 : Nat)) ∧
                        (br (decide ((0 : Int) ≤ (8 : Int) ∧ (8 : Int) ≤ (↑(List.length l) : Int) ∧ (↑(List.length l) : Int) ≤ (↑(List.length l) : Int)))
                         ((Value.slice (some (Addr.mk (0 : Nat) (8 : Nat) none)) (Int.toNat (↑(List.length l) : Int) - (8 : Nat)) (1 : Nat) = Value.slice (some (Addr.mk (0 : Nat) (8 : Nat) none)) (Int.toNat (↑(List.length l) : Int) - (8 : Nat)) (1 : Nat)) ∧
                         ((y.1 = ty) ∧
                         ((y.2 = st) ∧
                         ((y.3 = false) ∧
                         ((y.4 = false) ∧
                         ((y.5 = false) ∧
                         (((0 : Nat) = (0 : Nat)) ∧
                         ((List.length o = (0 : Nat) + (Int.toNat (↑(List.length l) : Int) - (8 : Nat))) ∧
                         ((y.6 = num4R (Row.mk (List.take ((Int.toNat (↑(List.length l) : Int) - (4 : Nat)) * (1 : Nat)) (List.drop (4 : Nat) (bCells l))) true (Ob.cells true))) ∧
                         ((y.7 = low4R (Row.mk (List.take (List.length l * (1 : Nat)) (List.drop (0 : Nat) (bCells l))) true (Ob.cells true))) ∧
                         ((y.8 = (0 : Int)) ∧
                         ((y.9 = (0 : Int)) ∧
                         ((List.length s = (0 : Nat)) ∧
                         ((sc = (0 : Int)) ∧
                         ((cd = (0 : Int)) ∧
                         ((sn = (0 : Int)) ∧
                         ((Eq (α := List Value) (bCells l) (bCells l)) ∧
                         ((Plain (bCells l)) ∧
                         ((Eq (α := List Value) (bCells o) ([] ++ List.take ((Int.toNat (↑(List.length l) : Int) - (8 : Nat)) * (1 : Nat)) (List.drop (8 : Nat) (bCells l)))) ∧
                         ((Plain (bCells o)) ∧
                         ((Eq (α := List Value) (gC seC s) ([])) ∧
                         True)))))))))))))))))))))
                         False))
                        False))
                       False))
                      False))
                     False)
                    False)
                   False)
                  False)
                 False))
                False)))
              (br (ty == (8 : Int))
               (br (Int.ofNat (List.length l) != (4 : Int))
                ((y.1 = (0 : Int)) ∧
                ((y.2 = (0 : Int)) ∧
                ((y.3 = false) ∧
                ((y.4 = false) ∧
                ((y.5 = false) ∧
                ((List.length o = (0 : Nat)) ∧
                ((y.6 = (0 : Int)) ∧
                ((y.7 = (0 : Int)) ∧
                ((y.8 = (0 : Int)) ∧
                ((y.9 = (0 : Int)) ∧
                ((List.length s = (0 : Nat)) ∧
                ((sc = (2 : Int)) ∧
                ((cd = (6 : Int)) ∧
                ((sn = (0 : Int)) ∧
                ((Eq (α := List Value) (bCells l) (bCells l)) ∧
                ((Plain (bCells l)) ∧
                ((Eq (α := List Value) (bCells o) ([])) ∧
                ((Eq (α := List Value) (gC seC s) ([])) ∧
                True))))))))))))))))))
                ((((((0 : Nat) + List.length l * (1 : Nat) ≤ List.length (bCells l) ∧ Plain (List.take (List.length l * (1 : Nat)) (List.drop (0 : Nat) (bCells l)))) ∧ True) ∧ ((True ∧ True) ∧ (True ∧ (IsB (Row.mk (List.take (List.length l * (1 : Nat)) (List.drop (0 : Nat) (bCells l))) true (Ob.cells true)) (List.length l) ∧ ((4 : Nat) ≤ List.length l ∧ List.length l ≤ (9223372036854775807 : Nat))))))) ∧
                (br (low4R (Row.mk (List.take (List.length l * (1 : Nat)) (List.drop (0 : Nat) (bCells l))) true (Ob.cells true)) == (0 : Int))
                 (br (st == (0 : Int))
                  ((y.1 = (0 : Int)) ∧
                  ((y.2 = (0 : Int)) ∧
                  ((y.3 = false) ∧
                  ((y.4 = false) ∧
                  ((y.5 = false) ∧
                  ((List.length o = (0 : Nat)) ∧
                  ((y.6 = (0 : Int)) ∧
                  ((y.7 = (0 : Int)) ∧
                  ((y.8 = (0 : Int)) ∧
                  ((y.9 = (0 : Int)) ∧
                  ((List.length s = (0 : Nat)) ∧
                  ((sc = (2 : Int)) ∧
                  ((cd = (1 : Int)) ∧
                  ((sn = (0 : Int)) ∧
                  ((Eq (α := List Value) (bCells l) (bCells l)) ∧
                  ((Plain (bCells l)) ∧
                  ((Eq (α := List Value) (bCells o) ([])) ∧
                  ((Eq (α := List Value) (gC seC s) ([])) ∧
                  True))))))))))))))))))
                  (br (low4R (Row.mk (List.take (List.length l * (1 : Nat)) (List.drop (0 : Nat) (bCells l))) true (Ob.cells true)) == (0 : Int))
                   ((y.1 = (0 : Int)) ∧
                   ((y.2 = (0 : Int)) ∧
                   ((y.3 = false) ∧
                   ((y.4 = false) ∧
                   ((y.5 = false) ∧
                   ((List.length o = (0 : Nat)) ∧
                   ((y.6 = (0 : Int)) ∧
                   ((y.7 = (0 : Int)) ∧
                   ((y.8 = (0 : Int)) ∧
                   ((y.9 = (0 : Int)) ∧
                   ((List.length s = (0 : Nat)) ∧
                   ((sc = (1 : Int)) ∧
                   ((cd = (1 : Int)) ∧
                   ((sn = st) ∧
                   ((Eq (α := List Value) (bCells l) (bCells l)) ∧
                   ((Plain (bCells l)) ∧
                   ((Eq (α := List Value) (bCells o) ([])) ∧
                   ((Eq (α := List Value) (gC seC s) ([])) ∧
                   True))))))))))))))))))
                   ((y.1 = ty) ∧
                   ((y.2 = st) ∧
                   ((y.3 = false) ∧
                   ((y.4 = false) ∧
                   ((y.5 = false) ∧
                   ((List.length o = (0 : Nat)) ∧
                   ((y.6 = (0 : Int)) ∧
                   ((y.7 = (0 : Int)) ∧
                   ((y.8 = low4R (Row.mk (List.take (List.length l * (1 : Nat)) (List.drop (0 : Nat) (bCells l))) true (Ob.cells true))) ∧
                   ((y.9 = (0 : Int)) ∧
                   ((List.length s = (0 : Nat)) ∧
                   ((sc = (0 : Int)) ∧
                   ((cd = (0 : Int)) ∧
                   ((sn = (0 : Int)) ∧
                   ((Eq (α := List Value) (bCells l) (bCells l)) ∧
                   ((Plain (bCells l)) ∧
                   ((Eq (α := List Value) (bCells o) ([])) ∧
                   ((Eq (α := List Value) (gC seC s) ([])) ∧
                   True))))))))))))))))))))
                 (br (low4R (Row.mk (List.take (List.length l * (1 : Nat)) (List.drop (0 : Nat) (bCells l))) true (Ob.cells true)) == (0 : Int))
                  ((y.1 = (0 : Int)) ∧
                  ((y.2 = (0 : Int)) ∧
                  ((y.3 = false) ∧
                  ((y.4 = false) ∧
                  ((y.5 = false) ∧
                  ((List.length o = (0 : Nat)) ∧
                  ((y.6 = (0 : Int)) ∧
                  ((y.7 = (0 : Int)) ∧
                  ((y.8 = (0 : Int)) ∧
                  ((y.9 = (0 : Int)) ∧
                  ((List.length s = (0 : Nat)) ∧
                  ((sc = (1 : Int)) ∧
                  ((cd = (1 : Int)) ∧
                  ((sn = st) ∧
                  ((Eq (α := List Value) (bCells l) (bCells l)) ∧
                  ((Plain (bCells l)) ∧
                  ((Eq (α := List Value) (bCells o) ([])) ∧
                  ((Eq (α := List Value) (gC seC s) ([])) ∧
                  True))))))))))))))))))
                  ((y.1 = ty) ∧
                  ((y.2 = st) ∧
                  ((y.3 = false) ∧
                  ((y.4 = false) ∧
                  ((y.5 = false) ∧
                  ((List.length o = (0 : Nat)) ∧
                  ((y.6 = (0 : Int)) ∧
                  ((y.7 = (0 : Int)) ∧
                  ((y.8 = low4R (Row.mk (List.take (List.length l * (1 : Nat)) (List.drop (0 : Nat) (bCells l))) true (Ob.cells true))) ∧
                  ((y.9 = (0 : Int)) ∧
                  ((List.length s = (0 : Nat)) ∧
                  ((sc = (0 : Int)) ∧
                  ((cd = (0 : Int)) ∧
                  ((sn = (0 : Int)) ∧
                  ((Eq (α := List Value) (bCells l) (bCells l)) ∧
                  ((Plain (bCells l)) ∧
                  ((Eq (α := List Value) (bCells o) ([])) ∧
                  ((Eq (α := List Value) (gC seC s) ([])) ∧
                  True))))))))))))))))))))))
               (br (ty == (9 : Int))
                (br (decide ((0 : Nat) + List.length l * (1 : Nat) ≤ List.length (bCells l)))
                 (br (allOne (List.take (List.length l * (1 : Nat)) (List.drop (0 : Nat) (bCells l))))
                  (br (decide ((0 : Nat) + List.length l ≤ (16777216 : Nat)))
                   ((Value.int IntKind.i64 fl = Value.int IntKind.i64 fl) ∧
                   ((Value.int IntKind.i64 fl = Value.int IntKind.i64 fl) ∧
                   ((y.1 = ty) ∧
                   ((y.2 = st) ∧
                   ((y.3 = false) ∧
                   ((y.4 = (iand IntKind.i64 fl (4 : Int) != (0 : Int))) ∧
                   ((y.5 = false) ∧
                   (((0 : Nat) = (0 : Nat)) ∧
                   ((List.length o = (0 : Nat) + List.length l) ∧
                   ((y.6 = (0 : Int)) ∧
                   ((y.7 = (0 : Int)) ∧
                   ((y.8 = (0 : Int)) ∧
                   ((y.9 = (0 : Int)) ∧
                   ((List.length s = (0 : Nat)) ∧
                   ((sc = (0 : Int)) ∧
                   ((cd = (0 : Int)) ∧
                   ((sn = (0 : Int)) ∧
                   ((Eq (α := List Value) (bCells l) (bCells l)) ∧
                   ((Plain (bCells l)) ∧
                   ((Eq (α := List Value) (bCells o) ([] ++ List.take (List.length l * (1 : Nat)) (List.drop (0 : Nat) (bCells l)))) ∧
                   ((Plain (bCells o)) ∧
                   ((Eq (α := List Value) (gC seC s) ([])) ∧
                   True))))))))))))))))))))))
                   False)
                  False)
                 False)
                ((y.1 = ty) ∧
                ((y.2 = st) ∧
                ((y.3 = false) ∧
                ((y.4 = false) ∧
                ((y.5 = false) ∧
                ((List.length o = (0 : Nat)) ∧
                ((y.6 = (0 : Int)) ∧
                ((y.7 = (0 : Int)) ∧
                ((y.8 = (0 : Int)) ∧
                ((y.9 = (0 : Int)) ∧
                ((List.length s = (0 : Nat)) ∧
                ((sc = (0 : Int)) ∧
                ((cd = (0 : Int)) ∧
                ((sn = (0 : Int)) ∧
                ((Eq (α := List Value) (bCells l) (bCells l)) ∧
                ((Plain (bCells l)) ∧
                ((Eq (α := List Value) (bCells o) ([])) ∧
                ((Eq (α := List Value) (gC seC s) ([])) ∧
                True)))))))))))))))))))))))))))))
     (br (ty == (6 : Int))
      (br (st != (0 : Int))
       ((y.1 = (0 : Int)) ∧
       ((y.2 = (0 : Int)) ∧
       ((y.3 = false) ∧
       ((y.4 = false) ∧
       ((y.5 = false) ∧
       ((List.length o = (0 : Nat)) ∧
       ((y.6 = (0 : Int)) ∧
       ((y.7 = (0 : Int)) ∧
       ((y.8 = (0 : Int)) ∧
       ((y.9 = (0 : Int)) ∧
       ((List.length s = (0 : Nat)) ∧
       ((sc = (2 : Int)) ∧
       ((cd = (1 : Int)) ∧
       ((sn = (0 : Int)) ∧
       ((Eq (α := List Value) (bCells l) (bCells l)) ∧
       ((Plain (bCells l)) ∧
       ((Eq (α := List Value) (bCells o) ([])) ∧
       ((Eq (α := List Value) (gC seC s) ([])) ∧
       True))))))))))))))))))
       (br (ty == (5 : Int))
        ((y.1 = (0 : Int)) ∧
        ((y.2 = (0 : Int)) ∧
        ((y.3 = false) ∧
        ((y.4 = false) ∧
        ((y.5 = false) ∧
        ((List.length o = (0 : Nat)) ∧
        ((y.6 = (0 : Int)) ∧
        ((y.7 = (0 : Int)) ∧
        ((y.8 = (0 : Int)) ∧
        ((y.9 = (0 : Int)) ∧
        ((List.length s = (0 : Nat)) ∧
        ((sc = (2 : Int)) ∧
        ((cd = (1 : Int)) ∧
        ((sn = (0 : Int)) ∧
        ((Eq (α := List Value) (bCells l) (bCells l)) ∧
        ((Plain (bCells l)) ∧
        ((Eq (α := List Value) (bCells o) ([])) ∧
        ((Eq (α := List Value) (gC seC s) ([])) ∧
        True))))))))))))))))))
        (br (ty == (0 : Int))
         (((((True ∧ (True ∧ (True ∧ (((0 : Nat) + List.length l * (1 : Nat) ≤ List.length (bCells l) ∧ Plain (List.take (List.length l * (1 : Nat)) (List.drop (0 : Nat) (bCells l)))) ∧ True)))) ∧ ((True ∧ (True ∧ (True ∧ (True ∧ (True ∧ (True ∧ (True ∧ (True ∧ (True ∧ (True ∧ (True ∧ True))))))))))) ∧ True)) ∧ ((True ∧ True) ∧ ((Plain (lBc ty fl st (Row.mk (List.take (List.length l * (1 : Nat)) (List.drop (0 : Nat) (bCells l))) true (Ob.cells true))) ∧ True) ∧ (IsB (Row.mk (List.take (List.length l * (1 : Nat)) (List.drop (0 : Nat) (bCells l))) true (Ob.cells true)) (List.length l) ∧ (List.length l ≤ (16777216 : Nat) ∧ Ty01 ty)))))) ∧
         ((y.1 = lI ty ty fl st (Row.mk (List.take (List.length l * (1 : Nat)) (List.drop (0 : Nat) (bCells l))) true (Ob.cells true))) ∧
         ((y.2 = lI st ty fl st (Row.mk (List.take (List.length l * (1 : Nat)) (List.drop (0 : Nat) (bCells l))) true (Ob.cells true))) ∧
         ((y.3 = lE ty fl st (Row.mk (List.take (List.length l * (1 : Nat)) (List.drop (0 : Nat) (bCells l))) true (Ob.cells true))) ∧
         ((y.4 = lF false ty fl st (Row.mk (List.take (List.length l * (1 : Nat)) (List.drop (0 : Nat) (bCells l))) true (Ob.cells true))) ∧
         ((y.5 = lZ false ty fl st (Row.mk (List.take (List.length l * (1 : Nat)) (List.drop (0 : Nat) (bCells l))) true (Ob.cells true))) ∧
         (((0 : Nat) = (0 : Nat)) ∧
         ((List.length o = lBn ty fl st (Row.mk (List.take (List.length l * (1 : Nat)) (List.drop (0 : Nat) (bCells l))) true (Ob.cells true))) ∧
         ((y.6 = lI (0 : Int) ty fl st (Row.mk (List.take (List.length l * (1 : Nat)) (List.drop (0 : Nat) (bCells l))) true (Ob.cells true))) ∧
         ((y.7 = lI (0 : Int) ty fl st (Row.mk (List.take (List.length l * (1 : Nat)) (List.drop (0 : Nat) (bCells l))) true (Ob.cells true))) ∧
         ((y.8 = lI (0 : Int) ty fl st (Row.mk (List.take (List.length l * (1 : Nat)) (List.drop (0 : Nat) (bCells l))) true (Ob.cells true))) ∧
         ((y.9 = lCs (0 : Int) ty fl st (Row.mk (List.take (List.length l * (1 : Nat)) (List.drop (0 : Nat) (bCells l))) true (Ob.cells true))) ∧
         ((List.length s = (0 : Nat)) ∧
         ((sc = lScR ty fl st (Row.mk (List.take (List.length l * (1 : Nat)) (List.drop (0 : Nat) (bCells l))) true (Ob.cells true))) ∧
         ((cd = lCdR ty fl st (Row.mk (List.take (List.length l * (1 : Nat)) (List.drop (0 : Nat) (bCells l))) true (Ob.cells true))) ∧
         ((sn = lSnR ty fl st (Row.mk (List.take (List.length l * (1 : Nat)) (List.drop (0 : Nat) (bCells l))) true (Ob.cells true))) ∧
         ((Eq (α := List Value) (bCells l) (bCells l)) ∧
         ((Plain (bCells l)) ∧
         ((Eq (α := List Value) (bCells o) (lBc ty fl st (Row.mk (List.take (List.length l * (1 : Nat)) (List.drop (0 : Nat) (bCells l))) true (Ob.cells true)))) ∧
         ((Plain (bCells o)) ∧
         ((Eq (α := List Value) (gC seC s) ([])) ∧
         True)))))))))))))))))))))
         (br (ty == (1 : Int))
          (((((True ∧ (True ∧ (True ∧ (((0 : Nat) + List.length l * (1 : Nat) ≤ List.length (bCells l) ∧ Plain (List.take (List.length l * (1 : Nat)) (List.drop (0 : Nat) (bCells l)))) ∧ True)))) ∧ ((True ∧ (True ∧ (True ∧ (True ∧ (True ∧ (True ∧ (True ∧ (True ∧ (True ∧ (True ∧ (True ∧ True))))))))))) ∧ True)) ∧ ((True ∧ True) ∧ ((Plain (lBc ty fl st (Row.mk (List.take (List.length l * (1 : Nat)) (List.drop (0 : Nat) (bCells l))) true (Ob.cells true))) ∧ True) ∧ (IsB (Row.mk (List.take (List.length l * (1 : Nat)) (List.drop (0 : Nat) (bCells l))) true (Ob.cells true)) (List.length l) ∧ (List.length l ≤ (16777216 : Nat) ∧ Ty01 ty)))))) ∧
          ((y.1 = lI ty ty fl st (Row.mk (List.take (List.length l * (1 : Nat)) (List.drop (0 : Nat) (bCells l))) true (Ob.cells true))) ∧
          ((y.2 = lI st ty fl st (Row.mk (List.take (List.length l * (1 : Nat)) (List.drop (0 : Nat) (bCells l))) true (Ob.cells true))) ∧
          ((y.3 = lE ty fl st (Row.mk (List.take (List.length l * (1 : Nat)) (List.drop (0 : Nat) (bCells l))) true (Ob.cells true))) ∧
          ((y.4 = lF false ty fl st (Row.mk (List.take (List.length l * (1 : Nat)) (List.drop (0 : Nat) (bCells l))) true (Ob.cells true))) ∧
          ((y.5 = lZ false ty fl st (Row.mk (List.take (List.length l * (1 : Nat)) (List.drop (0 : Nat) (bCells l))) true (Ob.cells true))) ∧
          (((0 : Nat) = (0 : Nat)) ∧
          ((List.length o = lBn ty fl st (Row.mk (List.take (List.length l * (1 : Nat)) (List.drop (0 : Nat) (bCells l))) true (Ob.cells true))) ∧
          ((y.6 = lI (0 : Int) ty fl st (Row.mk (List.take (List.length l * (1 : Nat)) (List.drop (0 : Nat) (bCells l))) true (Ob.cells true))) ∧
          ((y.7 = lI (0 : Int) ty fl st (Row.mk (List.take (List.length l * (1 : Nat)) (List.drop (0 : Nat) (bCells l))) true (Ob.cells true))) ∧
          ((y.8 = lI (0 : Int) ty fl st (Row.mk (List.take (List.length l * (1 : Nat)) (List.drop (0 : Nat) (bCells l))) true (Ob.cells true))) ∧
          ((y.9 = lCs (0 : Int) ty fl st (Row.mk (List.take (List.length l * (1 : Nat)) (List.drop (0 : Nat) (bCells l))) true (Ob.cells true))) ∧
          ((List.length s = (0 : Nat)) ∧
          ((sc = lScR ty fl st (Row.mk (List.take (List.length l * (1 : Nat)) (List.drop (0 : Nat) (bCells l))) true (Ob.cells true))) ∧
          ((cd = lCdR ty fl st (Row.mk (List.take (List.length l * (1 : Nat)) (List.drop (0 : Nat) (bCells l))) true (Ob.cells true))) ∧
          ((sn = lSnR ty fl st (Row.mk (List.take (List.length l * (1 : Nat)) (List.drop (0 : Nat) (bCells l))) true (Ob.cells true))) ∧
          ((Eq (α := List Value) (bCells l) (bCells l)) ∧
          ((Plain (bCells l)) ∧
          ((Eq (α := List Value) (bCells o) (lBc ty fl st (Row.mk (List.take (List.length l * (1 : Nat)) (List.drop (0 : Nat) (bCells l))) true (Ob.cells true)))) ∧
          ((Plain (bCells o)) ∧
          ((Eq (α := List Value) (gC seC s) ([])) ∧
          True)))))))))))))))))))))
          (br (ty == (2 : Int))
           (br (Int.ofNat (List.length l) != (5 : Int))
            ((y.1 = (0 : Int)) ∧
            ((y.2 = (0 : Int)) ∧
            ((y.3 = false) ∧
            ((y.4 = false) ∧
            ((y.5 = false) ∧
            ((List.length o = (0 : Nat)) ∧
            ((y.6 = (0 : Int)) ∧
            ((y.7 = (0 : Int)) ∧
            ((y.8 = (0 : Int)) ∧
            ((y.9 = (0 : Int)) ∧
            ((List.length s = (0 : Nat)) ∧
            ((sc = (1 : Int)) ∧
            ((cd = (6 : Int)) ∧
            ((sn = st) ∧
            ((Eq (α := List Value) (bCells l) (bCells l)) ∧
            ((Plain (bCells l)) ∧
            ((Eq (α := List Value) (bCells o) ([])) ∧
            ((Eq (α := List Value) (gC seC s) ([])) ∧
            True))))))))))))))))))
            ((((((0 : Nat) + List.length l * (1 : Nat) ≤ List.length (bCells l) ∧ Plain (List.take (List.length l * (1 : Nat)) (List.drop (0 : Nat) (bCells l)))) ∧ True) ∧ ((True ∧ True) ∧ (True ∧ (IsB (Row.mk (List.take (List.length l * (1 : Nat)) (List.drop (0 : Nat) (bCells l))) true (Ob.cells true)) (List.length l) ∧ ((4 : Nat) ≤ List.length l ∧ List.length l ≤ (9223372036854775807 : Nat))))))) ∧
            ((Value.int IntKind.i64 st = Value.int IntKind.i64 st) ∧
            ((Value.int IntKind.i64 st = Value.int IntKind.i64 st) ∧
            (br (low4R (Row.mk (List.take (List.length l * (1 : Nat)) (List.drop (0 : Nat) (bCells l))) true (Ob.cells true)) == st)
             ((y.1 = (0 : Int)) ∧
             ((y.2 = (0 : Int)) ∧
             ((y.3 = false) ∧
             ((y.4 = false) ∧
             ((y.5 = false) ∧
             ((List.length o = (0 : Nat)) ∧
             ((y.6 = (0 : Int)) ∧
             ((y.7 = (0 : Int)) ∧
             ((y.8 = (0 : Int)) ∧
             ((y.9 = (0 : Int)) ∧
             ((List.length s = (0 : Nat)) ∧
             ((sc = (1 : Int)) ∧
             ((cd = (1 : Int)) ∧
             ((sn = st) ∧
             ((Eq (α := List Value) (bCells l) (bCells l)) ∧
             ((Plain (bCells l)) ∧
             ((Eq (α := List Value) (bCells o) ([])) ∧
             ((Eq (α := List Value) (gC seC s) ([])) ∧
             True))))))))))))))))))
             ((y.1 = ty) ∧
             ((y.2 = st) ∧
             ((y.3 = false) ∧
             ((y.4 = false) ∧
             ((y.5 = false) ∧
             ((List.length o = (0 : Nat)) ∧
             ((y.6 = (0 : Int)) ∧
             ((y.7 = (0 : Int)) ∧
             ((y.8 = (0 : Int)) ∧
             ((y.9 = (0 : Int)) ∧
             ((List.length s = (0 : Nat)) ∧
             ((sc = (0 : Int)) ∧
             ((cd = (0 : Int)) ∧
             ((sn = (0 : Int)) ∧
             ((Eq (α := List Value) (bCells l) (bCells l)) ∧
             ((Plain (bCells l)) ∧
             ((Eq (α := List Value) (bCells o) ([])) ∧
             ((Eq (α := List Value) (gC seC s) ([])) ∧
             True)))))))))))))))))))))))
           (br (ty == (3 : Int))
            (br (Int.ofNat (List.length l) != (4 : Int))
             ((y.1 = (0 : Int)) ∧
             ((y.2 = (0 : Int)) ∧
             ((y.3 = false) ∧
             ((y.4 = false) ∧
             ((y.5 = false) ∧
             ((List.length o = (0 : Nat)) ∧
             ((y.6 = (0 : Int)) ∧
             ((y.7 = (0 : Int)) ∧
             ((y.8 = (0 : Int)) ∧
             ((y.9 = (0 : Int)) ∧
             ((List.length s = (0 : Nat)) ∧
             ((sc = (2 : Int)) ∧
             ((cd = (6 : Int)) ∧
             ((sn = (0 : Int)) ∧
             ((Eq (α := List Value) (bCells l) (bCells l)) ∧
             ((Plain (bCells l)) ∧
             ((Eq (α := List Value) (bCells o) ([])) ∧
             ((Eq (α := List Value) (gC seC s) ([])) ∧
             True))))))))))))))))))
             ((((((0 : Nat) + List.length l * (1 : Nat) ≤ List.length (bCells l) ∧ Plain (List.take (List.length l * (1 : Nat)) (List.drop (0 : Nat) (bCells l)))) ∧ True) ∧ ((True ∧ True) ∧ (True ∧ (IsB (Row.mk (List.take (List.length l * (1 : Nat)) (List.drop (0 : Nat) (bCells l))) true (Ob.cells true)) (List.length l) ∧ ((4 : Nat) ≤ List.length l ∧ List.length l ≤ (9223372036854775807 : Nat))))))) ∧
             ((y.1 = ty) ∧
             ((y.2 = st) ∧
             ((y.3 = false) ∧
             ((y.4 = false) ∧
             ((y.5 = false) ∧
             ((List.length o = (0 : Nat)) ∧
             ((y.6 = num4R (Row.mk (List.take (List.length l * (1 : Nat)) (List.drop (0 : Nat) (bCells l))) true (Ob.cells true))) ∧
             ((y.7 = (0 : Int)) ∧
             ((y.8 = (0 : Int)) ∧
             ((y.9 = (0 : Int)) ∧
             ((List.length s = (0 : Nat)) ∧
             ((sc = (0 : Int)) ∧
             ((cd = (0 : Int)) ∧
             ((sn = (0 : Int)) ∧
             ((Eq (α := List Value) (bCells l) (bCells l)) ∧
             ((Plain (bCells l)) ∧
             ((Eq (α := List Value) (bCells o) ([])) ∧
             ((Eq (α := List Value) (gC seC s) ([])) ∧
             True))))))))))))))))))))
            (br (ty == (4 : Int))
             (((((True ∧ (True ∧ (True ∧ (((0 : Nat) + List.length l * (1 : Nat) ≤ List.length (bCells l) ∧ Plain (List.take (List.length l * (1 : Nat)) (List.drop (0 : Nat) (bCells l)))) ∧ True)))) ∧ ((True ∧ (True ∧ (True ∧ (True ∧ (True ∧ (True ∧ (True ∧ (True ∧ (True ∧ (True ∧ (True ∧ True))))))))))) ∧ True)) ∧ ((True ∧ True) ∧ ((Plain (rsC fl (Row.mk (List.take (List.length l * (1 : Nat)) (List.drop (0 : Nat) (bCells l))) true (Ob.cells true))) ∧ True) ∧ (IsB (Row.mk (List.take (List.length l * (1 : Nat)) (List.drop (0 : Nat) (bCells l))) true (Ob.cells true)) (List.length l) ∧ List.length l ≤ (16777216 : Nat)))))) ∧
             ((y.1 = rsI ty fl (Row.mk (List.take (List.length l * (1 : Nat)) (List.drop (0 : Nat) (bCells l))) true (Ob.cells true))) ∧
             ((y.2 = rsI st fl (Row.mk (List.take (List.length l * (1 : Nat)) (List.drop (0 : Nat) (bCells l))) true (Ob.cells true))) ∧
             ((y.3 = rsB false fl (Row.mk (List.take (List.length l * (1 : Nat)) (List.drop (0 : Nat) (bCells l))) true (Ob.cells true))) ∧
             ((y.4 = rsB false fl (Row.mk (List.take (List.length l * (1 : Nat)) (List.drop (0 : Nat) (bCells l))) true (Ob.cells true))) ∧
             ((y.5 = rsB (bit fl (1 : Int)) fl (Row.mk (List.take (List.length l * (1 : Nat)) (List.drop (0 : Nat) (bCells l))) true (Ob.cells true))) ∧
             ((List.length o = (0 : Nat)) ∧
             ((y.6 = rsI (0 : Int) fl (Row.mk (List.take (List.length l * (1 : Nat)) (List.drop (0 : Nat) (bCells l))) true (Ob.cells true))) ∧
             ((y.7 = rsI (0 : Int) fl (Row.mk (List.take (List.length l * (1 : Nat)) (List.drop (0 : Nat) (bCells l))) true (Ob.cells true))) ∧
             ((y.8 = rsI (0 : Int) fl (Row.mk (List.take (List.length l * (1 : Nat)) (List.drop (0 : Nat) (bCells l))) true (Ob.cells true))) ∧
             ((y.9 = rsI (0 : Int) fl (Row.mk (List.take (List.length l * (1 : Nat)) (List.drop (0 : Nat) (bCells l))) true (Ob.cells true))) ∧
             (((0 : Nat) = (0 : Nat)) ∧
             ((List.length s = rsN fl (Row.mk (List.take (List.length l * (1 : Nat)) (List.drop (0 : Nat) (bCells l))) true (Ob.cells true))) ∧
             ((sc = stScR fl (Row.mk (List.take (List.length l * (1 : Nat)) (List.drop (0 : Nat) (bCells l))) true (Ob.cells true))) ∧
             ((cd = stCdR fl (Row.mk (List.take (List.length l * (1 : Nat)) (List.drop (0 : Nat) (bCells l))) true (Ob.cells true))) ∧
             ((sn = (0 : Int)) ∧
             ((Eq (α := List Value) (bCells l) (bCells l)) ∧
             ((Plain (bCells l)) ∧
             ((Eq (α := List Value) (bCells o) ([])) ∧
             ((Eq (α := List Value) (gC seC s) (rsC fl (Row.mk (List.take (List.length l * (1 : Nat)) (List.drop (0 : Nat) (bCells l))) true (Ob.cells true)))) ∧
             ((Plain (gC seC s)) ∧
             True)))))))))))))))))))))
             (br (ty == (6 : Int))
              (br (Int.ofNat (List.length l) != (8 : Int))
               ((y.1 = (0 : Int)) ∧
               ((y.2 = (0 : Int)) ∧
               ((y.3 = false) ∧
               ((y.4 = false) ∧
               ((y.5 = false) ∧
               ((List.length o = (0 : Nat)) ∧
               ((y.6 = (0 : Int)) ∧
               ((y.7 = (0 : Int)) ∧
               ((y.8 = (0 : Int)) ∧
               ((y.9 = (0 : Int)) ∧
               ((List.length s = (0 : Nat)) ∧
               ((sc = (2 : Int)) ∧
               ((cd = (6 : Int)) ∧
               ((sn = (0 : Int)) ∧
               ((Eq (α := List Value) (bCells l) (bCells l)) ∧
               ((Plain (bCells l)) ∧
               ((Eq (α := List Value) (bCells o) ([])) ∧
               ((Eq (α := List Value) (gC seC s) ([])) ∧
               True))))))))))))))))))
               (br (decide ((0 : Nat) + List.length l * (1 : Nat) ≤ List.length (bCells l)))
                (br (allOne (List.take (List.length l * (1 : Nat)) (List.drop (0 : Nat) (bCells l))))
                 (br (decide ((0 : Nat) + List.length l ≤ (16777216 : Nat)))
                  ((Value.int IntKind.i64 fl = Value.int IntKind.i64 fl) ∧
                  ((Value.int IntKind.i64 fl = Value.int IntKind.i64 fl) ∧
                  ((y.1 = ty) ∧
                  ((y.2 = st) ∧
                  ((y.3 = false) ∧
                  ((y.4 = false) ∧
                  ((y.5 = (iand IntKind.i64 fl (1 : Int) != (0 : Int))) ∧
                  (((0 : Nat) = (0 : Nat)) ∧
                  ((List.length o = (0 : Nat) + List.length l) ∧
                  ((y.6 = (0 : Int)) ∧
                  ((y.7 = (0 : Int)) ∧
                  ((y.8 = (0 : Int)) ∧
                  ((y.9 = (0 : Int)) ∧
                  ((List.length s = (0 : Nat)) ∧
                  ((sc = (0 : Int)) ∧
                  ((cd = (0 : Int)) ∧
                  ((sn = (0 : Int)) ∧
                  ((Eq (α := List Value) (bCells l) (bCells l)) ∧
                  ((Plain (bCells l)) ∧
                  ((Eq (α := List Value) (bCells o) ([] ++ List.take (List.length l * (1 : Nat)) (List.drop (0 : Nat) (bCells l)))) ∧
                  ((Plain (bCells o)) ∧
                  ((Eq (α := List Value) (gC seC s) ([])) ∧
                  True))))))))))))))))))))))
                  False)
                 False)
                False))
              (br (ty == (7 : Int))
               (br (decide (Int.ofNat (List.length l) < (8 : Int)))
                ((y.1 = (0 : Int)) ∧
                ((y.2 = (0 : Int)) ∧
                ((y.3 = false) ∧
                ((y.4 = false) ∧
                ((y.5 = false) ∧
                ((List.length o = (0 : Nat)) ∧
                ((y.6 = (0 : Int)) ∧
                ((y.7 = (0 : Int)) ∧
                ((y.8 = (0 : Int)) ∧
                ((y.9 = (0 : Int)) ∧
                ((List.length s = (0 : Nat)) ∧
                ((sc = (2 : Int)) ∧
                ((cd = (6 : Int)) ∧
                ((sn = (0 : Int)) ∧
                ((Eq (α := List Value) (bCells l) (bCells l)) ∧
                ((Plain (bCells l)) ∧
                ((Eq (α := List Value) (bCells o) ([])) ∧
                ((Eq (α := List Value) (gC seC s) ([])) ∧
                True))))))))))))))))))
                ((((((0 : Nat) + List.length l * (1 : Nat) ≤ List.length (bCells l) ∧ Plain (List.take (List.length l * (1 : Nat)) (List.drop (0 : Nat) (bCells l)))) ∧ True) ∧ ((True ∧ True) ∧ (True ∧ (IsB (Row.mk (List.take (List.length l * (1 : Nat)) (List.drop (0 : Nat) (bCells l))) true (Ob.cells true)) (List.length l) ∧ ((4 : Nat) ≤ List.length l ∧ List.length l ≤ (9223372036854775807 : Nat))))))) ∧
                (br (decide ((0 : Int) ≤ (4 : Int) ∧ (4 : Int) ≤ (↑(List.length l) : Int) ∧ (↑(List.length l) : Int) ≤ (↑(List.length l) : Int)))
                 ((((((4 : Nat) + (Int.toNat (↑(List.length l) : Int) - (4 : Nat)) * (1 : Nat) ≤ List.length (bCells l) ∧ Plain (List.take ((Int.toNat (↑(List.length l) : Int) - (4 : Nat)) * (1 : Nat)) (List.drop (4 : Nat) (bCells l)))) ∧ True) ∧ ((True ∧ True) ∧ (True ∧ (IsB (Row.mk (List.take ((Int.toNat (↑(List.length l) : Int) - (4 : Nat)) * (1 : Nat)) (List.drop (4 : Nat) (bCells l))) true (Ob.cells true)) (Int.toNat (↑(List.length l) : Int) - (4 : Nat)) ∧ ((4 : Nat) ≤ Int.toNat (↑(List.length l) : Int) - (4 : Nat) ∧ Int.toNat (↑(List.length l) : Int) - (4 : Nat) ≤ (9223372036854775807 : Nat))))))) ∧
                 (br (decide ((0 : Int) ≤ (8 : Int) ∧ (8 : Int) ≤ (↑(List.length l) : Int) ∧ (↑(List.length l) : Int) ≤ (↑(List.length l) : Int)))
                  (br (decide ((8 : Nat) + (Int.toNat (↑(List.length l) : Int) - (8 : Nat)) * (1 : Nat) ≤ List.length (bCells l)))
                   (br (allOne (List.take ((Int.toNat (↑(List.length l) : Int) - (8 : Nat)) * (1 : Nat)) (List.drop (8 : Nat) (bCells l))))
                    (br (decide ((0 : Nat) + (Int.toNat (↑(List.length l) : Int) - (8 : Nat)) ≤ (16777216 : Nat)))
                     (br (decide ((0 : Int) ≤ (4 : Int) ∧ (4 : Int) ≤ (↑(List.length l) : Int) ∧ (↑(List.length l) : Int) ≤ (↑(List.length l) : Int)))
                      ((Value.slice (some (Addr.mk (0 : Nat) (4 : Nat) none)) (Int.toNat (↑(List.length l) : Int) - (4 : Nat)) (1 : Nat) = Value.slice (some (Addr.mk (0 : Nat) (4 : Nat) none)) (Int.toNat (↑(List.length l) : Int) - (4 : Nat)) (1 : Nat)) ∧
                      (br (decide ((0 : Int) ≤ (4 : Int) ∧ (4 : Int) ≤ (↑(List.length l) : Int) ∧ (↑(List.length l) : Int) ≤ (↑(List.length l) : Int)))
                       ((Value.slice (some (Addr.mk (0 : Nat) (4 : Nat) none)) (Int.toNat (↑(List.length l) : Int) - (4 : Nat)) (1 : Nat) = Value.slice (some (Addr.mk (0 : Nat) (4 : Nat) none)) (Int.toNat (↑(List.length l) : Int) - (4 : Nat)) (1 : Nat)) ∧
                       (br (decide ((0 : Int) ≤ (8 : Int) ∧ (8 : Int) ≤ (↑(List.length l) : Int) ∧ (↑(List.length l) : Int) ≤ (↑(List.length l) : Int)))
                        ((Value.slice (some (Addr.mk (0 : Nat) (8 : Nat) none)) (Int.toNat (↑(List.length l) : Int) - (8 : Nat)) (1 : Nat) = Value.slice (some (Addr.mk (0 : Nat) (8 : Nat) none)) (Int.toNat (↑(List.length l) : Int) - (8 : Nat)) (1 : Nat)) ∧
                        (br (decide ((0 : Int) ≤ (8 : Int) ∧ (8 : Int) ≤ (↑(List.length l) : Int) ∧ (↑(List.length l) : Int) ≤ (↑(List.length l) : Int)))
                         ((Value.slice (some (Addr.mk (0 : Nat) (8 : Nat) none)) (Int.toNat (↑(List.length l) : Int) - (8 : Nat)) (1 : Nat) = Value.slice (some (Addr.mk (0 : Nat) (8 : Nat) none)) (Int.toNat (↑(List.length l) : Int) - (8 : Nat)) (1 : Nat)) ∧
                         (br (decide ((0 : Int) ≤ (8 : Int) ∧ (8 : Int) ≤ (↑(List.length l) : Int) ∧ (↑(List.length l) : Int) ≤ (↑(List.length l) : Int)))
                          ((Value.slice (some (Addr.mk (0 : Nat) (8 : Nat) none)) (Int.toNat (↑(List.length l) : Int) - (8 : Nat)) (1 : Nat) = Value.slice (some (Addr.mk (0 : Nat) (8 : Nat) none)) (Int.toNat (↑(List.length l) : Int) - (8 : Nat)) (1 : Nat)) ∧
                          ((y.1 = ty) ∧
                          ((y.2 = st) ∧
                          ((y.3 = false) ∧
                          ((y.4 = false) ∧
                          ((y.5 = false) ∧
                          (((0 : Nat) = (0 : Nat)) ∧
                          ((List.length o = (0 : Nat) + (Int.toNat (↑(List.length l) : Int) - (8 : Nat))) ∧
                          ((y.6 = num4R (Row.mk (List.take ((Int.toNat (↑(List.length l) : Int) - (4 : Nat)) * (1 : Nat)) (List.drop (4 : Nat) (bCells l))) true (Ob.cells true))) ∧
                          ((y.7 = low4R (Row.mk (List.take (List.length l * (1 : Nat)) (List.drop (0 : Nat) (bCells l))) true (Ob.cells true))) ∧
                          ((y.8 = (0 : Int)) ∧
                          ((y.9 = (0 : Int)) ∧
                          ((List.length s = (0 : Nat)) ∧
                          ((sc = (0 : Int)) ∧
                          ((cd = (0 : Int)) ∧
                          ((sn = (0 : Int)) ∧
                          ((Eq (α := List Value) (bCells l) (bCells l)) ∧
                          ((Plain (bCells l)) ∧
                          ((Eq (α := List Value) (bCells o) ([] ++ List.take ((Int.toNat (↑(List.length l) : Int) - (8 : Nat)) * (1 : Nat)) (List.drop (8 : Nat) (bCells l)))) ∧
                          ((Plain (bCells o)) ∧
                          ((Eq (α := List Value) (gC seC s) ([])) ∧
                          True)))))))))))))))))))))
                          False))
                         False))
                        False))
                       False))
                      False)
                     False)
                    False)
                   False)
                  False))
                 False)))
               (br (ty == (8 : Int))
                (br (Int.ofNat (List.length l) != (4 : Int))
                 ((y.1 = (0 : Int)) ∧
                 ((y.2 = (0 : Int)) ∧
                 ((y.3 = false) ∧
                 ((y.4 = false) ∧
                 ((y.5 = false) ∧
                 ((List.length o = (0 : Nat)) ∧
                 ((y.6 = (0 : Int)) ∧
                 ((y.7 = (0 : Int)) ∧
                 ((y.8 = (0 : Int)) ∧
                 ((y.9 = (0 : Int)) ∧
                 ((List.length s = (0 : Nat)) ∧
                 ((sc = (2 : Int)) ∧
                 ((cd = (6 : Int)) ∧
                 ((sn = (0 : Int)) ∧
                 ((Eq (α := List Value) (bCells l) (bCells l)) ∧
                 ((Plain (bCells l)) ∧
                 ((Eq (α := List Value) (bCells o) ([])) ∧
                 ((Eq (α := List Value) (gC seC s) ([])) ∧
                 True))))))))))))))))))
                 ((((((0 : Nat) + List.length l * (1 : Nat) ≤ List.length (bCells l) ∧ Plain (List.take (List.length l * (1 : Nat)) (List.drop (0 : Nat) (bCells l)))) ∧ True) ∧ ((True ∧ True) ∧ (True ∧ (IsB (Row.mk (List.take (List.length l * (1 : Nat)) (List.drop (0 : Nat) (bCells l))) true (Ob.cells true)) (List.length l) ∧ ((4 : Nat) ≤ List.length l ∧ List.length l ≤ (9223372036854775807 : Nat))))))) ∧
                 (br (low4R (Row.mk (List.take (List.length l * (1 : Nat)) (List.drop (0 : Nat) (bCells l))) true (Ob.cells true)) == (0 : Int))
                  (br (st == (0 : Int))
                   ((y.1 = (0 : Int)) ∧
                   ((y.2 = (0 : Int)) ∧
                   ((y.3 = false) ∧
                   ((y.4 = false) ∧
                   ((y.5 = false) ∧
                   ((List.length o = (0 : Nat)) ∧
                   ((y.6 = (0 : Int)) ∧
                   ((y.7 = (0 : Int)) ∧
                   ((y.8 = (0 : Int)) ∧
                   ((y.9 = (0 : Int)) ∧
                   ((List.length s = (0 : Nat)) ∧
                   ((sc = (2 : Int)) ∧
                   ((cd = (1 : Int)) ∧
                   ((sn = (0 : Int)) ∧
                   ((Eq (α := List Value) (bCells l) (bCells l)) ∧
                   ((Plain (bCells l)) ∧
                   ((Eq (α := List Value) (bCells o) ([])) ∧
                   ((Eq (α := List Value) (gC seC s) ([])) ∧
                   True))))))))))))))))))
                   (br (low4R (Row.mk (List.take (List.length l * (1 : Nat)) (List.drop (0 : Nat) (bCells l))) true (Ob.cells true)) == (0 : Int))
                    ((y.1 = (0 : Int)) ∧
                    ((y.2 = (0 : Int)) ∧
                    ((y.3 = false) ∧
                    ((y.4 = false) ∧
                    ((y.5 = false) ∧
                    ((List.length o = (0 : Nat)) ∧
                    ((y.6 = (0 : Int)) ∧
                    ((y.7 = (0 : Int)) ∧
                    ((y.8 = (0 : Int)) ∧
                    ((y.9 = (0 : Int)) ∧
                    ((List.length s = (0 : Nat)) ∧
                    ((sc = (1 : Int)) ∧
                    ((cd = (1 : Int)) ∧
                    ((sn = st) ∧
                    ((Eq (α := List Value) (bCells l) (bCells l)) ∧
                    ((Plain (bCells l)) ∧
                    ((Eq (α := List Value) (bCells o) ([])) ∧
                    ((Eq (α := List Value) (gC seC s) ([])) ∧
                    True))))))))))))))))))
                    ((y.1 = ty) ∧
                    ((y.2 = st) ∧
                    ((y.3 = false) ∧
                    ((y.4 = false) ∧
                    ((y.5 = false) ∧
                    ((List.length o = (0 : Nat)) ∧
                    ((y.6 = (0 : Int)) ∧
                    ((y.7 = (0 : Int)) ∧
                    ((y.8 = low4R (Row.mk (List.take (List.length l * (1 : Nat)) (List.drop (0 : Nat) (bCells l))) true (Ob.cells true))) ∧
                    ((y.9 = (0 : Int)) ∧
                    ((List.length s = (0 : Nat)) ∧
                    ((sc = (0 : Int)) ∧
                    ((cd = (0 : Int)) ∧
                    ((sn = (0 : Int)) ∧
                    ((Eq (α := List Value) (bCells l) (bCells l)) ∧
                    ((Plain (bCells l)) ∧
                    ((Eq (α := List Value) (bCells o) ([])) ∧
                    ((Eq (α := List Value) (gC seC s) ([])) ∧
                    True))))))))))))))))))))
                  (br (low4R (Row.mk (List.take (List.length l * (1 : Nat)) (List.drop (0 : Nat) (bCells l))) true (Ob.cells true)) == (0 : Int))
                   ((y.1 = (0 : Int)) ∧
                   ((y.2 = (0 : Int)) ∧
                   ((y.3 = false) ∧
                   ((y.4 = false) ∧
                   ((y.5 = false) ∧
                   ((List.length o = (0 : Nat)) ∧
                   ((y.6 = (0 : Int)) ∧
                   ((y.7 = (0 : Int)) ∧
                   ((y.8 = (0 : Int)) ∧
                   ((y.9 = (0 : Int)) ∧
                   ((List.length s = (0 : Nat)) ∧
                   ((sc = (1 : Int)) ∧
                   ((cd = (1 : Int)) ∧
                   ((sn = st) ∧
                   ((Eq (α := List Value) (bCells l) (bCells l)) ∧
                   ((Plain (bCells l)) ∧
                   ((Eq (α := List Value) (bCells o) ([])) ∧
                   ((Eq (α := List Value) (gC seC s) ([])) ∧
                   True))))))))))))))))))
                   ((y.1 = ty) ∧
                   ((y.2 = st) ∧
                   ((y.3 = false) ∧
                   ((y.4 = false) ∧
                   ((y.5 = false) ∧
                   ((List.length o = (0 : Nat)) ∧
                   ((y.6 = (0 : Int)) ∧
                   ((y.7 = (0 : Int)) ∧
                   ((y.8 = low4R (Row.mk (List.take (List.length l * (1 : Nat)) (List.drop (0 : Nat) (bCells l))) true (Ob.cells true))) ∧
                   ((y.9 = (0 : Int)) ∧
                   ((List.length s = (0 : Nat)) ∧
                   ((sc = (0 : Int)) ∧
                   ((cd = (0 : Int)) ∧
                   ((sn = (0 : Int)) ∧
                   ((Eq (α := List Value) (bCells l) (bCells l)) ∧
                   ((Plain (bCells l)) ∧
                   ((Eq (α := List Value) (bCells o) ([])) ∧
                   ((Eq (α := List Value) (gC seC s) ([])) ∧
                   True))))))))))))))))))))))
                (br (ty == (9 : Int))
                 (br (decide ((0 : Nat) + List.length l * (1 : Nat) ≤ List.length (bCells l)))
                  (br (allOne (List.take (List.length l * (1 : Nat)) (List.drop (0 : Nat) (bCells l))))
                   (br (decide ((0 : Nat) + List.length l ≤ (16777216 : Nat)))
                    ((Value.int IntKind.i64 fl = Value.int IntKind.i64 fl) ∧
                    ((Value.int IntKind.i64 fl = Value.int IntKind.i64 fl) ∧
                    ((y.1 = ty) ∧
                    ((y.2 = st) ∧
                    ((y.3 = false) ∧
                    ((y.4 = (iand IntKind.i64 fl (4 : Int) != (0 : Int))) ∧
                    ((y.5 = false) ∧
                    (((0 : Nat) = (0 : Nat)) ∧
                    ((List.length o = (0 : Nat) + List.length l) ∧
                    ((y.6 = (0 : Int)) ∧
                    ((y.7 = (0 : Int)) ∧
                    ((y.8 = (0 : Int)) ∧
                    ((y.9 = (0 : Int)) ∧
                    ((List.length s = (0 : Nat)) ∧
                    ((sc = (0 : Int)) ∧
                    ((cd = (0 : Int)) ∧
                    ((sn = (0 : Int)) ∧
                    ((Eq (α := List Value) (bCells l) (bCells l)) ∧
                    ((Plain (bCells l)) ∧
                    ((Eq (α := List Value) (bCells o) ([] ++ List.take (List.length l * (1 : Nat)) (List.drop (0 : Nat) (bCells l)))) ∧
                    ((Plain (bCells o)) ∧
                    ((Eq (α := List Value) (gC seC s) ([])) ∧
                    True))))))))))))))))))))))
                    False)
                   False)
                  False)
                 ((y.1 = ty) ∧
                 ((y.2 = st) ∧
                 ((y.3 = false) ∧
                 ((y.4 = false) ∧
                 ((y.5 = false) ∧
                 ((List.length o = (0 : Nat)) ∧
                 ((y.6 = (0 : Int)) ∧
                 ((y.7 = (0 : Int)) ∧
                 ((y.8 = (0 : Int)) ∧
                 ((y.9 = (0 : Int)) ∧
                 ((List.length s = (0 : Nat)) ∧
                 ((sc = (0 : Int)) ∧
                 ((cd = (0 : Int)) ∧
                 ((sn = (0 : Int)) ∧
                 ((Eq (α := List Value) (bCells l) (bCells l)) ∧
                 ((Plain (bCells l)) ∧
                 ((Eq (α := List Value) (bCells o) ([])) ∧
                 ((Eq (α := List Value) (gC seC s) ([])) ∧
                 True)))))))))))))))))))))))))))))
      (br (ty == (7 : Int))
       (br (st != (0 : Int))
        ((y.1 = (0 : Int)) ∧
        ((y.2 = (0 : Int)) ∧
        ((y.3 = false) ∧
        ((y.4 = false) ∧
        ((y.5 = false) ∧
        ((List.length o = (0 : Nat)) ∧
        ((y.6 = (0 : Int)) ∧
        ((y.7 = (0 : Int)) ∧
        ((y.8 = (0 : Int)) ∧
        ((y.9 = (0 : Int)) ∧
        ((List.length s = (0 : Nat)) ∧
        ((sc = (2 : Int)) ∧
        ((cd = (1 : Int)) ∧
        ((sn = (0 : Int)) ∧
        ((Eq (α := List Value) (bCells l) (bCells l)) ∧
        ((Plain (bCells l)) ∧
        ((Eq (α := List Value) (bCells o) ([])) ∧
        ((Eq (α := List Value) (gC seC s) ([])) ∧
        True))))))))))))))))))
        (br (!ty == (7 : Int))
         (br (ty != (8 : Int))
          (br (st == (0 : Int))
           ((y.1 = (0 : Int)) ∧
           ((y.2 = (0 : Int)) ∧
           ((y.3 = false) ∧
           ((y.4 = false) ∧
           ((y.5 = false) ∧
           ((List.length o = (0 : Nat)) ∧
           ((y.6 = (0 : Int)) ∧
           ((y.7 = (0 : Int)) ∧
           ((y.8 = (0 : Int)) ∧
           ((y.9 = (0 : Int)) ∧
           ((List.length s = (0 : Nat)) ∧
           ((sc = (2 : Int)) ∧
           ((cd = (1 : Int)) ∧
           ((sn = (0 : Int)) ∧
           ((Eq (α := List Value) (bCells l) (bCells l)) ∧
           ((Plain (bCells l)) ∧
           ((Eq (α := List Value) (bCells o) ([])) ∧
           ((Eq (α := List Value) (gC seC s) ([])) ∧
           True))))))))))))))))))
           (br (ty == (5 : Int))
            ((y.1 = (0 : Int)) ∧
            ((y.2 = (0 : Int)) ∧
            ((y.3 = false) ∧
            ((y.4 = false) ∧
            ((y.5 = false) ∧
            ((List.length o = (0 : Nat)) ∧
            ((y.6 = (0 : Int)) ∧
            ((y.7 = (0 : Int)) ∧
            ((y.8 = (0 : Int)) ∧
            ((y.9 = (0 : Int)) ∧
            ((List.length s = (0 : Nat)) ∧
            ((sc = (2 : Int)) ∧
            ((cd = (1 : Int)) ∧
            ((sn = (0 : Int)) ∧
            ((Eq (α := List Value) (bCells l) (bCells l)) ∧
            ((Plain (bCells l)) ∧
            ((Eq (α := List Value) (bCells o) ([])) ∧
            ((Eq (α := List Value) (gC seC s) ([])) ∧
            True))))))))))))))))))
            (br (ty == (0 : Int))
             (((((True ∧ (True ∧ (True ∧ (((0 : Nat) + List.length l * (1 : Nat) ≤ List.length (bCells l) ∧ Plain (List.take (List.length l * (1 : Nat)) (List.drop (0 : Nat) (bCells l)))) ∧ True)))) ∧ ((True ∧ (True ∧ (True ∧ (True ∧ (True ∧ (True ∧ (True ∧ (True ∧ (True ∧ (True ∧ (True ∧ True))))))))))) ∧ True)) ∧ ((True ∧ True) ∧ ((Plain (lBc ty fl st (Row.mk (List.take (List.length l * (1 : Nat)) (List.drop (0 : Nat) (bCells l))) true (Ob.cells true))) ∧ True) ∧ (IsB (Row.mk (List.take (List.length l * (1 : Nat)) (List.drop (0 : Nat) (bCells l))) true (Ob.cells true)) (List.length l) ∧ (List.length l ≤ (16777216 : Nat) ∧ Ty01 ty)))))) ∧
             ((y.1 = lI ty ty fl st (Row.mk (List.take (List.length l * (1 : Nat)) (List.drop (0 : Nat) (bCells l))) true (Ob.cells true))) ∧
             ((y.2 = lI st ty fl st (Row.mk (List.take (List.length l * (1 : Nat)) (List.drop (0 : Nat) (bCells l))) true (Ob.cells true))) ∧
             ((y.3 = lE ty fl st (Row.mk (List.take (List.length l * (1 : Nat)) (List.drop (0 : Nat) (bCells l))) true (Ob.cells true))) ∧
             ((y.4 = lF false ty fl st (Row.mk (List.take (List.length l * (1 : Nat)) (List.drop (0 : Nat) (bCells l))) true (Ob.cells true))) ∧
             ((y.5 = lZ false ty fl st (Row.mk (List.take (List.length l * (1 : Nat)) (List.drop (0 : Nat) (bCells l))) true (Ob.cells true))) ∧
             (((0 : Nat) = (0 : Nat)) ∧
             ((List.length o = lBn ty fl st (Row.mk (List.take (List.length l * (1 : Nat)) (List.drop (0 : Nat) (bCells l))) true (Ob.cells true))) ∧
             ((y.6 = lI (0 : Int) ty fl st (Row.mk (List.take (List.length l * (1 : Nat)) (List.drop (0 : Nat) (bCells l))) true (Ob.cells true))) ∧
             ((y.7 = lI (0 : Int) ty fl st (Row.mk (List.take (List.length l * (1 : Nat)) (List.drop (0 : Nat) (bCells l))) true (Ob.cells true))) ∧
             ((y.8 = lI (0 : Int) ty fl st (Row.mk (List.take (List.length l * (1 : Nat)) (List.drop (0 : Nat) (bCells l))) true (Ob.cells true))) ∧
             ((y.9 = lCs (0 : Int) ty fl st (Row.mk (List.take (List.length l * (1 : Nat)) (List.drop (0 : Nat) (bCells l))) true (Ob.cells true))) ∧
             ((List.length s = (0 : Nat)) ∧
             ((sc = lScR ty fl st (Row.mk (List.take (List.length l * (1 : Nat)) (List.drop (0 : Nat) (bCells l))) true (Ob.cells true))) ∧
             ((cd = lCdR ty fl st (Row.mk (List.take (List.length l * (1 : Nat)) (List.drop (0 : Nat) (bCells l))) true (Ob.cells true))) ∧
             ((sn = lSnR ty fl st (Row.mk (List.take (List.length l * (1 : Nat)) (List.drop (0 : Nat) (bCells l))) true (Ob.cells true))) ∧
             ((Eq (α := List Value) (bCells l) (bCells l)) ∧
             ((Plain (bCells l)) ∧
             ((Eq (α := List Value) (bCells o) (lBc ty fl st (Row.mk (List.take (List.length l * (1 : Nat)) (List.drop (0 : Nat) (bCells l))) true (Ob.cells true)))) ∧
             ((Plain (bCells o)) ∧
             ((Eq (α := List Value) (gC seC s) ([])) ∧
             True)))))))))))))))))))))
             (br (ty == (1 : Int))
              (((((True ∧ (True ∧ (True ∧ (((0 : Nat) + List.length l * (1 : Nat) ≤ List.length (bCells l) ∧ Plain (List.take (List.length l * (1 : Nat)) (List.drop (0 : Nat) (bCells l)))) ∧ True)))) ∧ ((True ∧ (True ∧ (True ∧ (True ∧ (True ∧ (True ∧ (True ∧ (True ∧ (True ∧ (True ∧ (True ∧ True))))))))))) ∧ True)) ∧ ((True ∧ True) ∧ ((Plain (lBc ty fl st (Row.mk (List.take (List.length l * (1 : Nat)) (List.drop (0 : Nat) (bCells l))) true (Ob.cells true))) ∧ True) ∧ (IsB (Row.mk (List.take (List.length l * (1 : Nat)) (List.drop (0 : Nat) (bCells l))) true (Ob.cells true)) (List.length l) ∧ (List.length l ≤ (16777216 : Nat) ∧ Ty01 ty)))))) ∧
              ((y.1 = lI ty ty fl st (Row.mk (List.take (List.length l * (1 : Nat)) (List.drop (0 : Nat) (bCells l))) true (Ob.cells true))) ∧
              ((y.2 = lI st ty fl st (Row.mk (List.take (List.length l * (1 : Nat)) (List.drop (0 : Nat) (bCells l))) true (Ob.cells true))) ∧
              ((y.3 = lE ty fl st (Row.mk (List.take (List.length l * (1 : Nat)) (List.drop (0 : Nat) (bCells l))) true (Ob.cells true))) ∧
              ((y.4 = lF false ty fl st (Row.mk (List.take (List.length l * (1 : Nat)) (List.drop (0 : Nat) (bCells l))) true (Ob.cells true))) ∧
              ((y.5 = lZ false ty fl st (Row.mk (List.take (List.length l * (1 : Nat)) (List.drop (0 : Nat) (bCells l))) true (Ob.cells true))) ∧
              (((0 : Nat) = (0 : Nat)) ∧
              ((List.length o = lBn ty fl st (Row.mk (List.take (List.length l * (1 : Nat)) (List.drop (0 : Nat) (bCells l))) true (Ob.cells true))) ∧
              ((y.6 = lI (0 : Int) ty fl st (Row.mk (List.take (List.length l * (1 : Nat)) (List.drop (0 : Nat) (bCells l))) true (Ob.cells true))) ∧
              ((y.7 = lI (0 : Int) ty fl st (Row.mk (List.take (List.length l * (1 : Nat)) (List.drop (0 : Nat) (bCells l))) true (Ob.cells true))) ∧
              ((y.8 = lI (0 : Int) ty fl st (Row.mk (List.take (List.length l * (1 : Nat)) (List.drop (0 : Nat) (bCells l))) true (Ob.cells true))) ∧
              ((y.9 = lCs (0 : Int) ty fl st (Row.mk (List.take (List.length l * (1 : Nat)) (List.drop (0 : Nat) (bCells l))) true (Ob.cells true))) ∧
              ((List.length s = (0 : Nat)) ∧
              ((sc = lScR ty fl st (Row.mk (List.take (List.length l * (1 : Nat)) (List.drop (0 : Nat) (bCells l))) true (Ob.cells true))) ∧
              ((cd = lCdR ty fl st (Row.mk (List.take (List.length l * (1 : Nat)) (List.drop (0 : Nat) (bCells l))) true (Ob.cells true))) ∧
              ((sn = lSnR ty fl st (Row.mk (List.take (List.length l * (1 : Nat)) (List.drop (0 : Nat) (bCells l))) true (Ob.cells true))) ∧
              ((Eq (α := List Value) (bCells l) (bCells l)) ∧
              ((Plain (bCells l)) ∧
              ((Eq (α := List Value) (bCells o) (lBc ty fl st (Row.mk (List.take (List.length l * (1 : Nat)) (List.drop (0 : Nat) (bCells l))) true (Ob.cells true)))) ∧
              ((Plain (bCells o)) ∧
              ((Eq (α := List Value) (gC seC s) ([])) ∧
              True)))))))))))))))))))))
              (br (ty == (2 : Int))
               (br (Int.ofNat (List.length l) != (5 : Int))
                ((y.1 = (0 : Int)) ∧
                ((y.2 = (0 : Int)) ∧
                ((y.3 = false) ∧
                ((y.4 = false) ∧
                ((y.5 = false) ∧
                ((List.length o = (0 : Nat)) ∧
                ((y.6 = (0 : Int)) ∧
                ((y.7 = (0 : Int)) ∧
                ((y.8 = (0 : Int)) ∧
                ((y.9 = (0 : Int)) ∧
                ((List.length s = (0 : Nat)) ∧
                ((sc = (1 : Int)) ∧
                ((cd = (6 : Int)) ∧
                ((sn = st) ∧
                ((Eq (α := List Value) (bCells l) (bCells l)) ∧
                ((Plain (bCells l)) ∧
                ((Eq (α := List Value) (bCells o) ([])) ∧
                ((Eq (α := List Value) (gC seC s) ([])) ∧
                True))))))))))))))))))
                ((((((0 : Nat) + List.length l * (1 : Nat) ≤ List.length (bCells l) ∧ Plain (List.take (List.length l * (1 : Nat)) (List.drop (0 : Nat) (bCells l)))) ∧ True) ∧ ((True ∧ True) ∧ (True ∧ (IsB (Row.mk (List.take (List.length l * (1 : Nat)) (List.drop (0 : Nat) (bCells l))) true (Ob.cells true)) (List.length l) ∧ ((4 : Nat) ≤ List.length l ∧ List.length l ≤ (9223372036854775807 : Nat))))))) ∧
                ((Value.int IntKind.i64 st = Value.int IntKind.i64 st) ∧
                ((Value.int IntKind.i64 st = Value.int IntKind.i64 st) ∧
                (br (low4R (Row.mk (List.take (List.length l * (1 : Nat)) (List.drop (0 : Nat) (bCells l))) true (Ob.cells true)) == st)
                 ((y.1 = (0 : Int)) ∧
                 ((y.2 = (0 : Int)) ∧
                 ((y.3 = false) ∧
                 ((y.4 = false) ∧
                 ((y.5 = false) ∧
                 ((List.length o = (0 : Nat)) ∧
                 ((y.6 = (0 : Int)) ∧
                 ((y.7 = (0 : Int)) ∧
                 ((y.8 = (0 : Int)) ∧
                 ((y.9 = (0 : Int)) ∧
                 ((List.length s = (0 : Nat)) ∧
                 ((sc = (1 : Int)) ∧
                 ((cd = (1 : Int)) ∧
                 ((sn = st) ∧
                 ((Eq (α := List Value) (bCells l) (bCells l)) ∧
                 ((Plain (bCells l)) ∧
                 ((Eq (α := List Value) (bCells o) ([])) ∧
                 ((Eq (α := List Value) (gC seC s) ([])) ∧
                 True))))))))))))))))))
                 ((y.1 = ty) ∧
                 ((y.2 = st) ∧
                 ((y.3 = false) ∧
                 ((y.4 = false) ∧
                 ((y.5 = false) ∧
                 ((List.length o = (0 : Nat)) ∧
                 ((y.6 = (0 : Int)) ∧
                 ((y.7 = (0 : Int)) ∧
                 ((y.8 = (0 : Int)) ∧
                 ((y.9 = (0 : Int)) ∧
                 ((List.length s = (0 : Nat)) ∧
                 ((sc = (0 : Int)) ∧
                 ((cd = (0 : Int)) ∧
                 ((sn = (0 : Int)) ∧
                 ((Eq (α := List Value) (bCells l) (bCells l)) ∧
                 ((Plain (bCells l)) ∧
                 ((Eq (α := List Value) (bCells o) ([])) ∧
                 ((Eq (α := List Value) (gC seC s) ([])) ∧
                 True)))))))))))))))))))))))
               (br (ty == (3 : Int))
                (br (Int.ofNat (List.length l) != (4 : Int))
                 ((y.1 = (0 : Int)) ∧
                 ((y.2 = (0 : Int)) ∧
                 ((y.3 = false) ∧
                 ((y.4 = false) ∧
                 ((y.5 = false) ∧
                 ((List.length o = (0 : Nat)) ∧
                 ((y.6 = (0 : Int)) ∧
                 ((y.7 = (0 : Int)) ∧
                 ((y.8 = (0 : Int)) ∧
                 ((y.9 = (0 : Int)) ∧
                 ((List.length s = (0 : Nat)) ∧
                 ((sc = (2 : Int)) ∧
                 ((cd = (6 : Int)) ∧
                 ((sn = (0 : Int)) ∧
                 ((Eq (α := List Value) (bCells l) (bCells l)) ∧
                 ((Plain (bCells l)) ∧
                 ((Eq (α := List Value) (bCells o) ([])) ∧
                 ((Eq (α := List Value) (gC seC s) ([])) ∧
                 True))))))))))))))))))
                 ((((((0 : Nat) + List.length l * (1 : Nat) ≤ List.length (bCells l) ∧ Plain (List.take (List.length l * (1 : Nat)) (List.drop (0 : Nat) (bCells l)))) ∧ True) ∧ ((True ∧ True) ∧ (True ∧ (IsB (Row.mk (List.take (List.length l * (1 : Nat)) (List.drop (0 : Nat) (bCells l))) true (Ob.cells true)) (List.length l) ∧ ((4 : Nat) ≤ List.length l ∧ List.length l ≤ (9223372036854775807 : Nat))))))) ∧
                 ((y.1 = ty) ∧
                 ((y.2 = st) ∧
                 ((y.3 = false) ∧
                 ((y.4 = false) ∧
                 ((y.5 = false) ∧
                 ((List.length o = (0 : Nat)) ∧
                 ((y.6 = num4R (Row.mk (List.take (List.length l * (1 : Nat)) (List.drop (0 : Nat) (bCells l))) true (Ob.cells true))) ∧
                 ((y.7 = (0 : Int)) ∧
                 ((y.8 = (0 : Int)) ∧
                 ((y.9 = (0 : Int)) ∧
                 ((List.length s = (0 : Nat)) ∧
                 ((sc = (0 : Int)) ∧
                 ((cd = (0 : Int)) ∧
                 ((sn = (0 : Int)) ∧
                 ((Eq (α := List Value) (bCells l) (bCells l)) ∧
                 ((Plain (bCells l)) ∧
                 ((Eq (α := List Value) (bCells o) ([])) ∧
                 ((Eq (α := List Value) (gC seC s) ([])) ∧
                 True))))))))))))))))))))
                (br (ty == (4 : Int))
                 (((((True ∧ (True ∧ (True ∧ (((0 : Nat) + List.length l * (1 : Nat) ≤ List.length (bCells l) ∧ Plain (List.take (List.length l * (1 : Nat)) (List.drop (0 : Nat) (bCells l)))) ∧ True)))) ∧ ((True ∧ (True ∧ (True ∧ (True ∧ (True ∧ (True ∧ (True ∧ (True ∧ (True ∧ (True ∧ (True ∧ True))))))))))) ∧ True)) ∧ ((True ∧ True) ∧ ((Plain (rsC fl (Row.mk (List.take (List.length l * (1 : Nat)) (List.drop (0 : Nat) (bCells l))) true (Ob.cells true))) ∧ True) ∧ (IsB (Row.mk (List.take (List.length l * (1 : Nat)) (List.drop (0 : Nat) (bCells l))) true (Ob.cells true)) (List.length l) ∧ List.length l ≤ (16777216 : Nat)))))) ∧
                 ((y.1 = rsI ty fl (Row.mk (List.take (List.length l * (1 : Nat)) (List.drop (0 : Nat) (bCells l))) true (Ob.cells true))) ∧
                 ((y.2 = rsI st fl (Row.mk (List.take (List.length l * (1 : Nat)) (List.drop (0 : Nat) (bCells l))) true (Ob.cells true))) ∧
                 ((y.3 = rsB false fl (Row.mk (List.take (List.length l * (1 : Nat)) (List.drop (0 : Nat) (bCells l))) true (Ob.cells true))) ∧
                 ((y.4 = rsB false fl (Row.mk (List.take (List.length l * (1 : Nat)) (List.drop (0 : Nat) (bCells l))) true (Ob.cells true))) ∧
                 ((y.5 = rsB (bit fl (1 : Int)) fl (Row.mk (List.take (List.length l * (1 : Nat)) (List.drop (0 : Nat) (bCells l))) true (Ob.cells true))) ∧
                 ((List.length o = (0 : Nat)) ∧
                 ((y.6 = rsI (0 : Int) fl (Row.mk (List.take (List.length l * (1 : Nat)) (List.drop (0 : Nat) (bCells l))) true (Ob.cells true))) ∧
                 ((y.7 = rsI (0 : Int) fl (Row.mk (List.take (List.length l * (1 : Nat)) (List.drop (0 : Nat) (bCells l))) true (Ob.cells true))) ∧
                 ((y.8 = rsI (0 : Int) fl (Row.mk (List.take (List.length l * (1 : Nat)) (List.drop (0 : Nat) (bCells l))) true (Ob.cells true))) ∧
                 ((y.9 = rsI (0 : Int) fl (Row.mk (List.take (List.length l * (1 : Nat)) (List.drop (0 : Nat) (bCells l))) true (Ob.cells true))) ∧
                 (((0 : Nat) = (0 : Nat)) ∧
                 ((List.length s = rsN fl (Row.mk (List.take (List.length l * (1 : Nat)) (List.drop (0 : Nat) (bCells l))) true (Ob.cells true))) ∧
                 ((sc = stScR fl (Row.mk (List.take (List.length l * (1 : Nat)) (List.drop (0 : Nat) (bCells l))) true (Ob.cells true))) ∧
                 ((cd = stCdR fl (Row.mk (List.take (List.length l * (1 : Nat)) (List.drop (0 : Nat) (bCells l))) true (Ob.cells true))) ∧
                 ((sn = (0 : Int)) ∧
                 ((Eq (α := List Value) (bCells l) (bCells l)) ∧
                 ((Plain (bCells l)) ∧
                 ((Eq (α := List Value) (bCells o) ([])) ∧
                 ((Eq (α := List Value) (gC seC s) (rsC fl (Row.mk (List.take (List.length l * (1 : Nat)) (List.drop (0 : Nat) (bCells l))) true (Ob.cells true)))) ∧
                 ((Plain (gC seC s)) ∧
                 True)))))))))))))))))))))
                 (br (ty == (6 : Int))
                  (br (Int.ofNat (List.length l) != (8 : Int))
                   ((y.1 = (0 : Int)) ∧
                   ((y.2 = (0 : Int)) ∧
                   ((y.3 = false) ∧
                   ((y.4 = false) ∧
                   ((y.5 = false) ∧
                   ((List.length o = (0 : Nat)) ∧
                   ((y.6 = (0 : Int)) ∧
                   ((y.7 = (0 : Int)) ∧
                   ((y.8 = (0 : Int)) ∧
                   ((y.9 = (0 : Int)) ∧
                   ((List.length s = (0 : Nat)) ∧
                   ((sc = (2 : Int)) ∧
                   ((cd = (6 : Int)) ∧
                   ((sn = (0 : Int)) ∧
                   ((Eq (α := List Value) (bCells l) (bCells l)) ∧
                   ((Plain (bCells l)) ∧
                   ((Eq (α := List Value) (bCells o) ([])) ∧
                   ((Eq (α := List Value) (gC seC s) ([])) ∧
                   True))))))))))))))))))
                   (br (decide ((0 : Nat) + List.length l * (1 : Nat) ≤ List.length (bCells l)))
                    (br (allOne (List.take (List.length l * (1 : Nat)) (List.drop (0 : Nat) (bCells l))))
                     (br (decide ((0 : Nat) + List.length l ≤ (16777216 : Nat)))
                      ((Value.int IntKind.i64 fl = Value.int IntKind.i64 fl) ∧
                      ((Value.int IntKind.i64 fl = Value.int IntKind.i64 fl) ∧
                      ((y.1 = ty) ∧
                      ((y.2 = st) ∧
                      ((y.3 = false) ∧
                      ((y.4 = false) ∧
                      ((y.5 = (iand IntKind.i64 fl (1 : Int) != (0 : Int))) ∧
                      (((0 : Nat) = (0 : Nat)) ∧
                      ((List.length o = (0 : Nat) + List.length l) ∧
                      ((y.6 = (0 : Int)) ∧
                      ((y.7 = (0 : Int)) ∧
                      ((y.8 = (0 : Int)) ∧
                      ((y.9 = (0 : Int)) ∧
                      ((List.length s = (0 : Nat)) ∧
                      ((sc = (0 : Int)) ∧
                      ((cd = (0 : Int)) ∧
                      ((sn = (0 : Int)) ∧
                      ((Eq (α := List Value) (bCells l) (bCells l)) ∧
                      ((Plain (bCells l)) ∧
                      ((Eq (α := List Value) (bCells o) ([] ++ List.take (List.length l * (1 : Nat)) (List.drop (0 : Nat) (bCells l)))) ∧
                      ((Plain (bCells o)) ∧
                      ((Eq (α := List Value) (gC seC s) ([])) ∧
                      True))))))))))))))))))))))
                      False)
                     False)
                    False))
                  (br (ty == (7 : Int))
                   (br (decide (Int.ofNat (List.length l) < (8 : Int)))
                    ((y.1 = (0 : Int)) ∧
                    ((y.2 = (0 : Int)) ∧
                    ((y.3 = false) ∧
                    ((y.4 = false) ∧
                    ((y.5 = false) ∧
                    ((List.length o = (0 : Nat)) ∧
                    ((y.6 = (0 : Int)) ∧
                    ((y.7 = (0 : Int)) ∧
                    ((y.8 = (0 : Int)) ∧
                    ((y.9 = (0 : Int)) ∧
                    ((List.length s = (0 : Nat)) ∧
                    ((sc = (2 : Int)) ∧
                    ((cd = (6 : Int)) ∧
                    ((sn = (0 : Int)) ∧
                    ((Eq (α := List Value) (bCells l) (bCells l)) ∧
                    ((Plain (bCells l)) ∧
                    ((Eq (α := List Value) (bCells o) ([])) ∧
                    ((Eq (α := List Value) (gC seC s) ([])) ∧
                    True))))))))))))))))))
                    ((((((0 : Nat) + List.length l * (1 : Nat) ≤ List.length (bCells l) ∧ Plain (List.take (List.length l * (1 : Nat)) (List.drop (0 : Nat) (bCells l)))) ∧ True) ∧ ((True ∧ True) ∧ (True ∧ (IsB (Row.mk (List.take (List.length l * (1 : Nat)) (List.drop (0 : Nat) (bCells l))) true (Ob.cells true)) (List.length l) ∧ ((4 : Nat) ≤ List.length l ∧ List.length l ≤ (9223372036854775807 : Nat))))))) ∧
                    (br (decide ((0 : Int) ≤ (4 : Int) ∧ (4 : Int) ≤ (↑(List.length l) : Int) ∧ (↑(List.length l) : Int) ≤ (↑(List.length l) : Int)))
                     ((((((4 : Nat) + (Int.toNat (↑(List.length l) : Int) - (4 : Nat)) * (1 : Nat) ≤ List.length (bCells l) ∧ Plain (List.take ((Int.toNat (↑(List.length l) : Int) - (4 : Nat)) * (1 : Nat)) (List.drop (4 : Nat) (bCells l)))) ∧ True) ∧ ((True ∧ True) ∧ (True ∧ (IsB (Row.mk (List.take ((Int.toNat (↑(List.length l) : Int) - (4 : Nat)) * (1 : Nat)) (List.drop (4 : Nat) (bCells l))) true (Ob.cells true)) (Int.toNat (↑(List.length l) : Int) - (4 : Nat)) ∧ ((4 : Nat) ≤ Int.toNat (↑(List.length l) : Int) - (4 : Nat) ∧ Int.toNat (↑(List.length l) : Int) - (4 : Nat) ≤ (9223372036854775807 : Nat))))))) ∧
                     (br (decide ((0 : Int) ≤ (8 : Int) ∧ (8 : Int) ≤ (↑(List.length l) : Int) ∧ (↑(List.length l) : Int) ≤ (↑(List.length l) : Int)))
                      (br (decide ((8 : Nat) + (Int.toNat (↑(List.length l) : Int) - (8 : Nat)) * (1 : Nat) ≤ List.length (bCells l)))
                       (br (allOne (List.take ((Int.toNat (↑(List.length l) : Int) - (8 : Nat)) * (1 : Nat)) (List.drop (8 : Nat) (bCells l))))
                        (br (decide ((0 : Nat) + (Int.toNat (↑(List.length l) : Int) - (8 : Nat)) ≤ (16777216 : Nat)))
                         (br (decide ((0 : Int) ≤ (4 : Int) ∧ (4 : Int) ≤ (↑(List.length l) : Int) ∧ (↑(List.length l) : Int) ≤ (↑(List.length l) : Int)))
                          ((Value.slice (some (Addr.mk (0 : Nat) (4 : Nat) none)) (Int.toNat (↑(List.length l) : Int) - (4 : Nat)) (1 : Nat) = Value.slice (some (Addr.mk (0 : Nat) (4 : Nat) none)) (Int.toNat (↑(List.length l) : Int) - (4 : Nat)) (1 : Nat)) ∧
                          (br (decide ((0 : Int) ≤ (4 : Int) ∧ (4 : Int) ≤ (↑(List.length l) : Int) ∧ (↑(List.length l) : Int) ≤ (↑(List.length l) : Int)))
                           ((Value.slice (some (Addr.mk (0 : Nat) (4 : Nat) none)) (Int.toNat (↑(List.length l) : Int) - (4 : Nat)) (1 : Nat) = Value.slice (some (Addr.mk (0 : Nat) (4 : Nat) none)) (Int.toNat (↑(List.length l) : Int) - (4 : Nat)) (1 : Nat)) ∧
                           (br (decide ((0 : Int) ≤ (8 : Int) ∧ (8 : Int) ≤ (↑(List.length l) : Int) ∧ (↑(List.length l) : Int) ≤ (↑(List.length l) : Int)))
                            ((Value.slice (some (Addr.mk (0 : Nat) (8 : Nat) none)) (Int.toNat (↑(List.length l) : Int) - (8 : Nat)) (1 : Nat) = Value.slice (some (Addr.mk (0 : Nat) (8 : Nat) none)) (Int.toNat (↑(List.length l) : Int) - (8 : Nat)) (1 : Nat)) ∧
                            (br (decide ((0 : Int) ≤ (8 : Int) ∧ (8 : Int) ≤ (↑(List.length l) : Int) ∧ (↑(List.length l) : Int) ≤ (↑(List.length l) : Int)))
                             ((Value.slice (some (Addr.mk (0 : Nat) (8 : Nat) none)) (Int.toNat (↑(List.length l) : Int) - (8 : Nat)) (1 : Nat) = Value.slice (some (Addr.mk (0 : Nat) (8 : Nat) none)) (Int.toNat (↑(List.length l) : Int) - (8 : Nat)) (1 : Nat)) ∧
                             (br (decide ((0 : Int) ≤ (8 : Int) ∧ (8 : Int) ≤ (↑(List.length l) : Int) ∧ (↑(List.length l) : Int) ≤ (↑(List.length l) : Int)))
                              ((Value.slice (some (Addr.mk (0 : Nat) (8 : Nat) none)) (Int.toNat (↑(List.length l) : Int) - (8 : Nat)) (1 : Nat) = Value.slice (some (Addr.mk (0 : Nat) (8 : Nat) none)) (Int.toNat (↑(List.length l) : Int) - (8 : Nat)) (1 : Nat)) ∧
                              ((y.1 = ty) ∧
                              ((y.2 = st) ∧
                              ((y.3 = false) ∧
                              ((y.4 = false) ∧
                              ((y.5 = false) ∧
                              (((0 : Nat) = (0 : Nat)) ∧
                              ((List.length o = (0 : Nat) + (Int.toNat (↑(List.length l) : Int) - (8 : Nat))) ∧
                              ((y.6 = num4R (Row.mk (List.take ((Int.toNat (↑(List.length l) : Int) - (4 : Nat)) * (1 : Nat)) (List.drop (4 : Nat) (bCells l))) true (Ob.cells true))) ∧
                              ((y.7 = low4R (Row.mk (List.take (List.length l * (1 : Nat)) (List.drop (0 : Nat) (bCells l))) true (Ob.cells true))) ∧
                              ((y.8 = (0 : Int)) ∧
                              ((y.9 = (0 : Int)) ∧
                              ((List.length s = (0 : Nat)) ∧
                              ((sc = (0 : Int)) ∧
                              ((cd = (0 : Int)) ∧
                              ((sn = (0 : Int)) ∧
                              ((Eq (α := List Value) (bCells l) (bCells l)) ∧
                              ((Plain (bCells l)) ∧
                              ((Eq (α := List Value) (bCells o) ([] ++ List.take ((Int.toNat (↑(List.length l) : Int) - (8 : Nat)) * (1 : Nat)) (List.drop (8 : Nat) (bCells l)))) ∧
                              ((Plain (bCells o)) ∧
                              ((Eq (α := List Value) (gC seC s) ([])) ∧
                              True)))))))))))))))))))))
                              False))
                             False))
                            False))
                           False))
                          False)
                         False)
                        False)
                       False)
                      False))
                     False)))
                   (br (ty == (8 : Int))
                    (br (Int.ofNat (List.length l) != (4 : Int))
                     ((y.1 = (0 : Int)) ∧
                     ((y.2 = (0 : Int)) ∧
                     ((y.3 = false) ∧
                     ((y.4 = false) ∧
                     ((y.5 = false) ∧
                     ((List.length o = (0 : Nat)) ∧
                     ((y.6 = (0 : Int)) ∧
                     ((y.7 = (0 : Int)) ∧
                     ((y.8 = (0 : Int)) ∧
                     ((y.9 = (0 : Int)) ∧
                     ((List.length s = (0 : Nat)) ∧
                     ((sc = (2 : Int)) ∧
                     ((cd = (6 : Int)) ∧
                     ((sn = (0 : Int)) ∧
                     ((Eq (α := List Value) (bCells l) (bCells l)) ∧
                     ((Plain (bCells l)) ∧
                     ((Eq (α := List Value) (bCells o) ([])) ∧
                     ((Eq (α := List Value) (gC seC s) ([])) ∧
                     True))))))))))))))))))
                     ((((((0 : Nat) + List.length l * (1 : Nat) ≤ List.length (bCells l) ∧ Plain (List.take (List.length l * (1 : Nat)) (List.drop (0 : Nat) (bCells l)))) ∧ True) ∧ ((True ∧ True) ∧ (True ∧ (IsB (Row.mk (List.take (List.length l * (1 : Nat)) (List.drop (0 : Nat) (bCells l))) true (Ob.cells true)) (List.length l) ∧ ((4 : Nat) ≤ List.length l ∧ List.length l ≤ (9223372036854775807 : Nat))))))) ∧
                     (br (low4R (Row.mk (List.take (List.length l * (1 : Nat)) (List.drop (0 : Nat) (bCells l))) true (Ob.cells true)) == (0 : Int))
                      (br (st == (0 : Int))
                       ((y.1 = (0 : Int)) ∧
                       ((y.2 = (0 : Int)) ∧
                       ((y.3 = false) ∧
                       ((y.4 = false) ∧
                       ((y.5 = false) ∧
                       ((List.length o = (0 : Nat)) ∧
                       ((y.6 = (0 : Int)) ∧
                       ((y.7 = (0 : Int)) ∧
                       ((y.8 = (0 : Int)) ∧
                       ((y.9 = (0 : Int)) ∧
                       ((List.length s = (0 : Nat)) ∧
                       ((sc = (2 : Int)) ∧
                       ((cd = (1 : Int)) ∧
                       ((sn = (0 : Int)) ∧
                       ((Eq (α := List Value) (bCells l) (bCells l)) ∧
                       ((Plain (bCells l)) ∧
                       ((Eq (α := List Value) (bCells o) ([])) ∧
                       ((Eq (α := List Value) (gC seC s) ([])) ∧
                       True))))))))))))))))))
                       (br (low4R (Row.mk (List.take (List.length l * (1 : Nat)) (List.drop (0 : Nat) (bCells l))) true (Ob.cells true)) == (0 : Int))
                        ((y.1 = (0 : Int)) ∧
                        ((y.2 = (0 : Int)) ∧
                        ((y.3 = false) ∧
                        ((y.4 = false) ∧
                        ((y.5 = false) ∧
                        ((List.length o = (0 : Nat)) ∧
                        ((y.6 = (0 : Int)) ∧
                        ((y.7 = (0 : Int)) ∧
                        ((y.8 = (0 : Int)) ∧
                        ((y.9 = (0 : Int)) ∧
                        ((List.length s = (0 : Nat)) ∧
                        ((sc = (1 : Int)) ∧
                        ((cd = (1 : Int)) ∧
                        ((sn = st) ∧
                        ((Eq (α := List Value) (bCells l) (bCells l)) ∧
                        ((Plain (bCells l)) ∧
                        ((Eq (α := List Value) (bCells o) ([])) ∧
                        ((Eq (α := List Value) (gC seC s) ([])) ∧
                        True))))))))))))))))))
                        ((y.1 = ty) ∧
                        ((y.2 = st) ∧
                        ((y.3 = false) ∧
                        ((y.4 = false) ∧
                        ((y.5 = false) ∧
                        ((List.length o = (0 : Nat)) ∧
                        ((y.6 = (0 : Int)) ∧
                        ((y.7 = (0 : Int)) ∧
                        ((y.8 = low4R (Row.mk (List.take (List.length l * (1 : Nat)) (List.drop (0 : Nat) (bCells l))) true (Ob.cells true))) ∧
                        ((y.9 = (0 : Int)) ∧
                        ((List.length s = (0 : Nat)) ∧
                        ((sc = (0 : Int)) ∧
                        ((cd = (0 : Int)) ∧
                        ((sn = (0 : Int)) ∧
                        ((Eq (α := List Value) (bCells l) (bCells l)) ∧
                        ((Plain (bCells l)) ∧
                        ((Eq (α := List Value) (bCells o) ([])) ∧
                        ((Eq (α := List Value) (gC seC s) ([])) ∧
                        True))))))))))))))))))))
                      (br (low4R (Row.mk (List.take (List.length l * (1 : Nat)) (List.drop (0 : Nat) (bCells l))) true (Ob.cells true)) == (0 : Int))
                       ((y.1 = (0 : Int)) ∧
                       ((y.2 = (0 : Int)) ∧
                       ((y.3 = false) ∧
                       ((y.4 = false) ∧
                       ((y.5 = false) ∧
                       ((List.length o = (0 : Nat)) ∧
                       ((y.6 = (0 : Int)) ∧
                       ((y.7 = (0 : Int)) ∧
                       ((y.8 = (0 : Int)) ∧
                       ((y.9 = (0 : Int)) ∧
                       ((List.length s = (0 : Nat)) ∧
                       ((sc = (1 : Int)) ∧
                       ((cd = (1 : Int)) ∧
                       ((sn = st) ∧
                       ((Eq (α := List Value) (bCells l) (bCells l)) ∧
                       ((Plain (bCells l)) ∧
                       ((Eq (α := List Value) (bCells o) ([])) ∧
                       ((Eq (α := List Value) (gC seC s) ([])) ∧
                       True))))))))))))))))))
                       ((y.1 = ty) ∧
                       ((y.2 = st) ∧
                       ((y.3 = false) ∧
                       ((y.4 = false) ∧
                       ((y.5 = false) ∧
                       ((List.length o = (0 : Nat)) ∧
                       ((y.6 = (0 : Int)) ∧
                       ((y.7 = (0 : Int)) ∧
                       ((y.8 = low4R (Row.mk (List.take (List.length l * (1 : Nat)) (List.drop (0 : Nat) (bCells l))) true (Ob.cells true))) ∧
                       ((y.9 = (0 : Int)) ∧
                       ((List.length s = (0 : Nat)) ∧
                       ((sc = (0 : Int)) ∧
                       ((cd = (0 : Int)) ∧
                       ((sn = (0 : Int)) ∧
                       ((Eq (α := List Value) (bCells l) (bCells l)) ∧
                       ((Plain (bCells l)) ∧
                       ((Eq (α := List Value) (bCells o) ([])) ∧
                       ((Eq (α := List Value) (gC seC s) ([])) ∧
                       True))))))))))))))))))))))
                    (br (ty == (9 : Int))
                     (br (decide ((0 : Nat) + List.length l * (1 : Nat) ≤ List.length (bCells l)))
                      (br (allOne (List.take (List.length l * (1 : Nat)) (List.drop (0 : Nat) (bCells l))))
                       (br (decide ((0 : Nat) + List.length l ≤ (16777216 : Nat)))
                        ((Value.int IntKind.i64 fl = Value.int IntKind.i64 fl) ∧
                        ((Value.int IntKind.i64 fl = Value.int IntKind.i64 fl) ∧
                        ((y.1 = ty) ∧
                        ((y.2 = st) ∧
                        ((y.3 = false) ∧
                        ((y.4 = (iand IntKind.i64 fl (4 : Int) != (0 : Int))) ∧
                        ((y.5 = false) ∧
                        (((0 : Nat) = (0 : Nat)) ∧
                        ((List.length o = (0 : Nat) + List.length l) ∧
                        ((y.6 = (0 : Int)) ∧
                        ((y.7 = (0 : Int)) ∧
                        ((y.8 = (0 : Int)) ∧
                        ((y.9 = (0 : Int)) ∧
                        ((List.length s = (0 : Nat)) ∧
                        ((sc = (0 : Int)) ∧
                        ((cd = (0 : Int)) ∧
                        ((sn = (0 : Int)) ∧
                        ((Eq (α := List Value) (bCells l) (bCells l)) ∧
                        ((Plain (bCells l)) ∧
                        ((Eq (α := List Value) (bCells o) ([] ++ List.take (List.length l * (1 : Nat)) (List.drop (0 : Nat) (bCells l)))) ∧
                        ((Plain (bCells o)) ∧
                        ((Eq (α := List Value) (gC seC s) ([])) ∧
                        True))))))))))))))))))))))
                        False)
                       False)
                      False)
                     ((y.1 = ty) ∧
                     ((y.2 = st) ∧
                     ((y.3 = false) ∧
                     ((y.4 = false) ∧
                     ((y.5 = false) ∧
                     ((List.length o = (0 : Nat)) ∧
                     ((y.6 = (0 : Int)) ∧
                     ((y.7 = (0 : Int)) ∧
                     ((y.8 = (0 : Int)) ∧
                     ((y.9 = (0 : Int)) ∧
                     ((List.length s = (0 : Nat)) ∧
                     ((sc = (0 : Int)) ∧
                     ((cd = (0 : Int)) ∧
                     ((sn = (0 : Int)) ∧
                     ((Eq (α := List Value) (bCells l) (bCells l)) ∧
                     ((Plain (bCells l)) ∧
                     ((Eq (α := List Value) (bCells o) ([])) ∧
                     ((Eq (α := List Value) (gC seC s) ([])) ∧
                     True)))))))))))))))))))))))))))))
          (br (ty == (5 : Int))
           ((y.1 = (0 : Int)) ∧
           ((y.2 = (0 : Int)) ∧
           ((y.3 = false) ∧
           ((y.4 = false) ∧
           ((y.5 = false) ∧
           ((List.length o = (0 : Nat)) ∧
           ((y.6 = (0 : Int)) ∧
           ((y.7 = (0 : Int)) ∧
           ((y.8 = (0 : Int)) ∧
           ((y.9 = (0 : Int)) ∧
           ((List.length s = (0 : Nat)) ∧
           ((sc = (2 : Int)) ∧
           ((cd = (1 : Int)) ∧
           ((sn = (0 : Int)) ∧
           ((Eq (α := List Value) (bCells l) (bCells l)) ∧
           ((Plain (bCells l)) ∧
           ((Eq (α := List Value) (bCells o) ([])) ∧
           ((Eq (α := List Value) (gC seC s) ([])) ∧
           True))))))))))))))))))
           (br (ty == (0 : Int))
            (((((True ∧ (True ∧ (True ∧ (((0 : Nat) + List.length l * (1 : Nat) ≤ List.length (bCells l) ∧ Plain (List.take (List.length l * (1 : Nat)) (List.drop (0 : Nat) (bCells l)))) ∧ True)))) ∧ ((True ∧ (True ∧ (True ∧ (True ∧ (True ∧ (True ∧ (True ∧ (True ∧ (True ∧ (True ∧ (True ∧ True))))))))))) ∧ True)) ∧ ((True ∧ True) ∧ ((Plain (lBc ty fl st (Row.mk (List.take (List.length l * (1 : Nat)) (List.drop (0 : Nat) (bCells l))) true (Ob.cells true))) ∧ True) ∧ (IsB (Row.mk (List.take (List.length l * (1 : Nat)) (List.drop (0 : Nat) (bCells l))) true (Ob.cells true)) (List.length l) ∧ (List.length l ≤ (16777216 : Nat) ∧ Ty01 ty)))))) ∧
            ((y.1 = lI ty ty fl st (Row.mk (List.take (List.length l * (1 : Nat)) (List.drop (0 : Nat) (bCells l))) true (Ob.cells true))) ∧
            ((y.2 = lI st ty fl st (Row.mk (List.take (List.length l * (1 : Nat)) (List.drop (0 : Nat) (bCells l))) true (Ob.cells true))) ∧
            ((y.3 = lE ty fl st (Row.mk (List.take (List.length l * (1 : Nat)) (List.drop (0 : Nat) (bCells l))) true (Ob.cells true))) ∧
            ((y.4 = lF false ty fl st (Row.mk (List.take (List.length l * (1 : Nat)) (List.drop (0 : Nat) (bCells l))) true (Ob.cells true))) ∧
            ((y.5 = lZ false ty fl st (Row.mk (List.take (List.length l * (1 : Nat)) (List.drop (0 : Nat) (bCells l))) true (Ob.cells true))) ∧
            (((0 : Nat) = (0 : Nat)) ∧
            ((List.length o = lBn ty fl st (Row.mk (List.take (List.length l * (1 : Nat)) (List.drop (0 : Nat) (bCells l))) true (Ob.cells true))) ∧
            ((y.6 = lI (0 : Int) ty fl st (Row.mk (List.take (List.length l * (1 : Nat)) (List.drop (0 : Nat) (bCells l))) true (Ob.cells true))) ∧
            ((y.7 = lI (0 : Int) ty fl st (Row.mk (List.take (List.length l * (1 : Nat)) (List.drop (0 : Nat) (bCells l))) true (Ob.cells true))) ∧
            ((y.8 = lI (0 : Int) ty fl st (Row.mk (List.take (List.length l * (1 : Nat)) (List.drop (0 : Nat) (bCells l))) true (Ob.cells true))) ∧
            ((y.9 = lCs (0 : Int) ty fl st (Row.mk (List.take (List.length l * (1 : Nat)) (List.drop (0 : Nat) (bCells l))) true (Ob.cells true))) ∧
            ((List.length s = (0 : Nat)) ∧
            ((sc = lScR ty fl st (Row.mk (List.take (List.length l * (1 : Nat)) (List.drop (0 : Nat) (bCells l))) true (Ob.cells true))) ∧
            ((cd = lCdR ty fl st (Row.mk (List.take (List.length l * (1 : Nat)) (List.drop (0 : Nat) (bCells l))) true (Ob.cells true))) ∧
            ((sn = lSnR ty fl st (Row.mk (List.take (List.length l * (1 : Nat)) (List.drop (0 : Nat) (bCells l))) true (Ob.cells true))) ∧
            ((Eq (α := List Value) (bCells l) (bCells l)) ∧
            ((Plain (bCells l)) ∧
            ((Eq (α := List Value) (bCells o) (lBc ty fl st (Row.mk (List.take (List.length l * (1 : Nat)) (List.drop (0 : Nat) (bCells l))) true (Ob.cells true)))) ∧
            ((Plain (bCells o)) ∧
            ((Eq (α := List Value) (gC seC s) ([])) ∧
            True)))))))))))))))))))))
            (br (ty == (1 : Int))
             (((((True ∧ (True ∧ (True ∧ (((0 : Nat) + List.length l * (1 : Nat) ≤ List.length (bCells l) ∧ Plain (List.take (List.length l * (1 : Nat)) (List.drop (0 : Nat) (bCells l)))) ∧ True)))) ∧ ((True ∧ (True ∧ (True ∧ (True ∧ (True ∧ (True ∧ (True ∧ (True ∧ (True ∧ (True ∧ (True ∧ True))))))))))) ∧ True)) ∧ ((True ∧ True) ∧ ((Plain (lBc ty fl st (Row.mk (List.take (List.length l * (1 : Nat)) (List.drop (0 : Nat) (bCells l))) true (Ob.cells true))) ∧ True) ∧ (IsB (Row.mk (List.take (List.length l * (1 : Nat)) (List.drop (0 : Nat) (bCells l))) true (Ob.cells true)) (List.length l) ∧ (List.length l ≤ (16777216 : Nat) ∧ Ty01 ty)))))) ∧
             ((y.1 = lI ty ty fl st (Row.mk (List.take (List.length l * (1 : Nat)) (List.drop (0 : Nat) (bCells l))) true (Ob.cells true))) ∧
             ((y.2 = lI st ty fl st (Row.mk (List.take (List.length l * (1 : Nat)) (List.drop (0 : Nat) (bCells l))) true (Ob.cells true))) ∧
             ((y.3 = lE ty fl st (Row.mk (List.take (List.length l * (1 : Nat)) (List.drop (0 : Nat) (bCells l))) true (Ob.cells true))) ∧
             ((y.4 = lF false ty fl st (Row.mk (List.take (List.length l * (1 : Nat)) (List.drop (0 : Nat) (bCells l))) true (Ob.cells true))) ∧
             ((y.5 = lZ false ty fl st (Row.mk (List.take (List.length l * (1 : Nat)) (List.drop (0 : Nat) (bCells l))) true (Ob.cells true))) ∧
             (((0 : Nat) = (0 : Nat)) ∧
             ((List.length o = lBn ty fl st (Row.mk (List.take (List.length l * (1 : Nat)) (List.drop (0 : Nat) (bCells l))) true (Ob.cells true))) ∧
             ((y.6 = lI (0 : Int) ty fl st (Row.mk (List.take (List.length l * (1 : Nat)) (List.drop (0 : Nat) (bCells l))) true (Ob.cells true))) ∧
             ((y.7 = lI (0 : Int) ty fl st (Row.mk (List.take (List.length l * (1 : Nat)) (List.drop (0 : Nat) (bCells l))) true (Ob.cells true))) ∧
             ((y.8 = lI (0 : Int) ty fl st (Row.mk (List.take (List.length l * (1 : Nat)) (List.drop (0 : Nat) (bCells l))) true (Ob.cells true))) ∧
             ((y.9 = lCs (0 : Int) ty fl st (Row.mk (List.take (List.length l * (1 : Nat)) (List.drop (0 : Nat) (bCells l))) true (Ob.cells true))) ∧
             ((List.length s = (0 : Nat)) ∧
             ((sc = lScR ty fl st (Row.mk (List.take (List.length l * (1 : Nat)) (List.drop (0 : Nat) (bCells l))) true (Ob.cells true))) ∧
             ((cd = lCdR ty fl st (Row.mk (List.take (List.length l * (1 : Nat)) (List.drop (0 : Nat) (bCells l))) true (Ob.cells true))) ∧
             ((sn = lSnR ty fl st (Row.mk (List.take (List.length l * (1 : Nat)) (List.drop (0 : Nat) (bCells l))) true (Ob.cells true))) ∧
             ((Eq (α := List Value) (bCells l) (bCells l)) ∧
             ((Plain (bCells l)) ∧
             ((Eq (α := List Value) (bCells o) (lBc ty fl st (Row.mk (List.take (List.length l * (1 : Nat)) (List.drop (0 : Nat) (bCells l))) true (Ob.cells true)))) ∧
             ((Plain (bCells o)) ∧
             ((Eq (α := List Value) (gC seC s) ([])) ∧
             True)))))))))))))))))))))
             (br (ty == (2 : Int))
              (br (Int.ofNat (List.length l) != (5 : Int))
               ((y.1 = (0 : Int)) ∧
               ((y.2 = (0 : Int)) ∧
               ((y.3 = false) ∧
               ((y.4 = false) ∧
               ((y.5 = false) ∧
               ((List.length o = (0 : Nat)) ∧
               ((y.6 = (0 : Int)) ∧
               ((y.7 = (0 : Int)) ∧
               ((y.8 = (0 : Int)) ∧
               ((y.9 = (0 : Int)) ∧
               ((List.length s = (0 : Nat)) ∧
               ((sc = (1 : Int)) ∧
               ((cd = (6 : Int)) ∧
               ((sn = st) ∧
               ((Eq (α := List Value) (bCells l) (bCells l)) ∧
               ((Plain (bCells l)) ∧
               ((Eq (α := List Value) (bCells o) ([])) ∧
               ((Eq (α := List Value) (gC seC s) ([])) ∧
               True))))))))))))))))))
               ((((((0 : Nat) + List.length l * (1 : Nat) ≤ List.length (bCells l) ∧ Plain (List.take (List.length l * (1 : Nat)) (List.drop (0 : Nat) (bCells l)))) ∧ True) ∧ ((True ∧ True) ∧ (True ∧ (IsB (Row.mk (List.take (List.length l * (1 : Nat)) (List.drop (0 : Nat) (bCells l))) true (Ob.cells true)) (List.length l) ∧ ((4 : Nat) ≤ List.length l ∧ List.length l ≤ (9223372036854775807 : Nat))))))) ∧
               ((Value.int IntKind.i64 st = Value.int IntKind.i64 st) ∧
               ((Value.int IntKind.i64 st = Value.int IntKind.i64 st) ∧
               (br (low4R (Row.mk (List.take (List.length l * (1 : Nat)) (List.drop (0 : Nat) (bCells l))) true (Ob.cells true)) == st)
                ((y.1 = (0 : Int)) ∧
                ((y.2 = (0 : Int)) ∧
                ((y.3 = false) ∧
                ((y.4 = false) ∧
                ((y.5 = false) ∧
                ((List.length o = (0 : Nat)) ∧
                ((y.6 = (0 : Int)) ∧
                ((y.7 = (0 : Int)) ∧
                ((y.8 = (0 : Int)) ∧
                ((y.9 = (0 : Int)) ∧
                ((List.length s = (0 : Nat)) ∧
                ((sc = (1 : Int)) ∧
                ((cd = (1 : Int)) ∧
                ((sn = st) ∧
                ((Eq (α := List Value) (bCells l) (bCells l)) ∧
                ((Plain (bCells l)) ∧
                ((Eq (α := List Value) (bCells o) ([])) ∧
                ((Eq (α := List Value) (gC seC s) ([])) ∧
                True))))))))))))))))))
                ((y.1 = ty) ∧
                ((y.2 = st) ∧
                ((y.3 = false) ∧
                ((y.4 = false) ∧
                ((y.5 = false) ∧
                ((List.length o = (0 : Nat)) ∧
                ((y.6 = (0 : Int)) ∧
                ((y.7 = (0 : Int)) ∧
                ((y.8 = (0 : Int)) ∧
                ((y.9 = (0 : Int)) ∧
                ((List.length s = (0 : Nat)) ∧
                ((sc = (0 : Int)) ∧
                ((cd = (0 : Int)) ∧
                ((sn = (0 : Int)) ∧
                ((Eq (α := List Value) (bCells l) (bCells l)) ∧
                ((Plain (bCells l)) ∧
                ((Eq (α := List Value) (bCells o) ([])) ∧
                ((Eq (α := List Value) (gC seC s) ([])) ∧
                True)))))))))))))))))))))))
              (br (ty == (3 : Int))
               (br (Int.ofNat (List.length l) != (4 : Int))
                ((y.1 = (0 : Int)) ∧
                ((y.2 = (0 : Int)) ∧
                ((y.3 = false) ∧
                ((y.4 = false) ∧
                ((y.5 = false) ∧
                ((List.length o = (0 : Nat)) ∧
                ((y.6 = (0 : Int)) ∧
                ((y.7 = (0 : Int)) ∧
                ((y.8 = (0 : Int)) ∧
                ((y.9 = (0 : Int)) ∧
                ((List.length s = (0 : Nat)) ∧
                ((sc = (2 : Int)) ∧
                ((cd = (6 : Int)) ∧
                ((sn = (0 : Int)) ∧
                ((Eq (α := List Value) (bCells l) (bCells l)) ∧
                ((Plain (bCells l)) ∧
                ((Eq (α := List Value) (bCells o) ([])) ∧
                ((Eq (α := List Value) (gC seC s) ([])) ∧
                True))))))))))))))))))
                ((((((0 : Nat) + List.length l * (1 : Nat) ≤ List.length (bCells l) ∧ Plain (List.take (List.length l * (1 : Nat)) (List.drop (0 : Nat) (bCells l)))) ∧ True) ∧ ((True ∧ True) ∧ (True ∧ (IsB (Row.mk (List.take (List.length l * (1 : Nat)) (List.drop (0 : Nat) (bCells l))) true (Ob.cells true)) (List.length l) ∧ ((4 : Nat) ≤ List.length l ∧ List.length l ≤ (9223372036854775807 : Nat))))))) ∧
                ((y.1 = ty) ∧
                ((y.2 = st) ∧
                ((y.3 = false) ∧
                ((y.4 = false) ∧
                ((y.5 = false) ∧
                ((List.length o = (0 : Nat)) ∧
                ((y.6 = num4R (Row.mk (List.take (List.length l * (1 : Nat)) (List.drop (0 : Nat) (bCells l))) true (Ob.cells true))) ∧
                ((y.7 = (0 : Int)) ∧
                ((y.8 = (0 : Int)) ∧
                ((y.9 = (0 : Int)) ∧
                ((List.length s = (0 : Nat)) ∧
                ((sc = (0 : Int)) ∧
                ((cd = (0 : Int)) ∧
                ((sn = (0 : Int)) ∧
                ((Eq (α := List Value) (bCells l) (bCells l)) ∧
                ((Plain (bCells l)) ∧
                ((Eq (α := List Value) (bCells o) ([])) ∧
                ((Eq (α := List Value) (gC seC s) ([])) ∧
                True))))))))))))))))))))
               (br (ty == (4 : Int))
                (((((True ∧ (True ∧ (True ∧ (((0 : Nat) + List.length l * (1 : Nat) ≤ List.length (bCells l) ∧ Plain (List.take (List.length l * (1 : Nat)) (List.drop (0 : Nat) (bCells l)))) ∧ True)))) ∧ ((True ∧ (True ∧ (True ∧ (True ∧ (True ∧ (True ∧ (True ∧ (True ∧ (True ∧ (True ∧ (True ∧ True))))))))))) ∧ True)) ∧ ((True ∧ True) ∧ ((Plain (rsC fl (Row.mk (List.take (List.length l * (1 : Nat)) (List.drop (0 : Nat) (bCells l))) true (Ob.cells true))) ∧ True) ∧ (IsB (Row.mk (List.take (List.length l * (1 : Nat)) (List.drop (0 : Nat) (bCells l))) true (Ob.cells true)) (List.length l) ∧ List.length l ≤ (16777216 : Nat)))))) ∧
                ((y.1 = rsI ty fl (Row.mk (List.take (List.length l * (1 : Nat)) (List.drop (0 : Nat) (bCells l))) true (Ob.cells true))) ∧
                ((y.2 = rsI st fl (Row.mk (List.take (List.length l * (1 : Nat)) (List.drop (0 : Nat) (bCells l))) true (Ob.cells true))) ∧
                ((y.3 = rsB false fl (Row.mk (List.take (List.length l * (1 : Nat)) (List.drop (0 : Nat) (bCells l))) true (Ob.cells true))) ∧
                ((y.4 = rsB false fl (Row.mk (List.take (List.length l * (1 : Nat)) (List.drop (0 : Nat) (bCells l))) true (Ob.cells true))) ∧
                ((y.5 = rsB (bit fl (1 : Int)) fl (Row.mk (List.take (List.length l * (1 : Nat)) (List.drop (0 : Nat) (bCells l))) true (Ob.cells true))) ∧
                ((List.length o = (0 : Nat)) ∧
                ((y.6 = rsI (0 : Int) fl (Row.mk (List.take (List.length l * (1 : Nat)) (List.drop (0 : Nat) (bCells l))) true (Ob.cells true))) ∧
                ((y.7 = rsI (0 : Int) fl (Row.mk (List.take (List.length l * (1 : Nat)) (List.drop (0 : Nat) (bCells l))) true (Ob.cells true))) ∧
                ((y.8 = rsI (0 : Int) fl (Row.mk (List.take (List.length l * (1 : Nat)) (List.drop (0 : Nat) (bCells l))) true (Ob.cells true))) ∧
                ((y.9 = rsI (0 : Int) fl (Row.mk (List.take (List.length l * (1 : Nat)) (List.drop (0 : Nat) (bCells l))) true (Ob.cells true))) ∧
                (((0 : Nat) = (0 : Nat)) ∧
                ((List.length s = rsN fl (Row.mk (List.take (List.length l * (1 : Nat)) (List.drop (0 : Nat) (bCells l))) true (Ob.cells true))) ∧
                ((sc = stScR fl (Row.mk (List.take (List.length l * (1 : Nat)) (List.drop (0 : Nat) (bCells l))) true (Ob.cells true))) ∧
                ((cd = stCdR fl (Row.mk (List.take (List.length l * (1 : Nat)) (List.drop (0 : Nat) (bCells l))) true (Ob.cells true))) ∧
                ((sn = (0 : Int)) ∧
                ((Eq (α := List Value) (bCells l) (bCells l)) ∧
                ((Plain (bCells l)) ∧
                ((Eq (α := List Value) (bCells o) ([])) ∧
                ((Eq (α := List Value) (gC seC s) (rsC fl (Row.mk (List.take (List.length l * (1 : Nat)) (List.drop (0 : Nat) (bCells l))) true (Ob.cells true)))) ∧
                ((Plain (gC seC s)) ∧
                True)))))))))))))))))))))
                (br (ty == (6 : Int))
                 (br (Int.ofNat (List.length l) != (8 : Int))
                  ((y.1 = (0 : Int)) ∧
                  ((y.2 = (0 : Int)) ∧
                  ((y.3 = false) ∧
                  ((y.4 = false) ∧
                  ((y.5 = false) ∧
                  ((List.length o = (0 : Nat)) ∧
                  ((y.6 = (0 : Int)) ∧
                  ((y.7 = (0 : Int)) ∧
                  ((y.8 = (0 : Int)) ∧
                  ((y.9 = (0 : Int)) ∧
                  ((List.length s = (0 : Nat)) ∧
                  ((sc = (2 : Int)) ∧
                  ((cd = (6 : Int)) ∧
                  ((sn = (0 : Int)) ∧
                  ((Eq (α := List Value) (bCells l) (bCells l)) ∧
                  ((Plain (bCells l)) ∧
                  ((Eq (α := List Value) (bCells o) ([])) ∧
                  ((Eq (α := List Value) (gC seC s) ([])) ∧
                  True))))))))))))))))))
                  (br (decide ((0 : Nat) + List.length l * (1 : Nat) ≤ List.length (bCells l)))
                   (br (allOne (List.take (List.length l * (1 : Nat)) (List.drop (0 : Nat) (bCells l))))
                    (br (decide ((0 : Nat) + List.length l ≤ (16777216 : Nat)))
                     ((Value.int IntKind.i64 fl = Value.int IntKind.i64 fl) ∧
                     ((Value.int IntKind.i64 fl = Value.int IntKind.i64 fl) ∧
                     ((y.1 = ty) ∧
                     ((y.2 = st) ∧
                     ((y.3 = false) ∧
                     ((y.4 = false) ∧
                     ((y.5 = (iand IntKind.i64 fl (1 : Int) != (0 : Int))) ∧
                     (((0 : Nat) = (0 : Nat)) ∧
                     ((List.length o = (0 : Nat) + List.length l) ∧
                     ((y.6 = (0 : Int)) ∧
                     ((y.7 = (0 : Int)) ∧
                     ((y.8 = (0 : Int)) ∧
                     ((y.9 = (0 : Int)) ∧
                     ((List.length s = (0 : Nat)) ∧
                     ((sc = (0 : Int)) ∧
                     ((cd = (0 : Int)) ∧
                     ((sn = (0 : Int)) ∧
                     ((Eq (α := List Value) (bCells l) (bCells l)) ∧
                     ((Plain (bCells l)) ∧
                     ((Eq (α := List Value) (bCells o) ([] ++ List.take (List.length l * (1 : Nat)) (List.drop (0 : Nat) (bCells l)))) ∧
                     ((Plain (bCells o)) ∧
                     ((Eq (α := List Value) (gC seC s) ([])) ∧
                     True))))))))))))))))))))))
                     False)
                    False)
                   False))
                 (br (ty == (7 : Int))
                  (br (decide (Int.ofNat (List.length l) < (8 : Int)))
                   ((y.1 = (0 : Int)) ∧
                   ((y.2 = (0 : Int)) ∧
                   ((y.3 = false) ∧
                   ((y.4 = false) ∧
                   ((y.5 = false) ∧
                   ((List.length o = (0 : Nat)) ∧
                   ((y.6 = (0 : Int)) ∧
                   ((y.7 = (0 : Int)) ∧
                   ((y.8 = (0 : Int)) ∧
                   ((y.9 = (0 : Int)) ∧
                   ((List.length s = (0 : Nat)) ∧
                   ((sc = (2 : Int)) ∧
                   ((cd = (6 : Int)) ∧
                   ((sn = (0 : Int)) ∧
                   ((Eq (α := List Value) (bCells l) (bCells l)) ∧
                   ((Plain (bCells l)) ∧
                   ((Eq (α := List Value) (bCells o) ([])) ∧
                   ((Eq (α := List Value) (gC seC s) ([])) ∧
                   True))))))))))))))))))
                   ((((((0 : Nat) + List.length l * (1 : Nat) ≤ List.length (bCells l) ∧ Plain (List.take (List.length l * (1 : Nat)) (List.drop (0 : Nat) (bCells l)))) ∧ True) ∧ ((True ∧ True) ∧ (True ∧ (IsB (Row.mk (List.take (List.length l * (1 : Nat)) (List.drop (0 : Nat) (bCells l))) true (Ob.cells true)) (List.length l) ∧ ((4 : Nat) ≤ List.length l ∧ List.length l ≤ (9223372036854775807 : Nat))))))) ∧
                   (br (decide ((0 : Int) ≤ (4 : Int) ∧ (4 : Int) ≤ (↑(List.length l) : Int) ∧ (↑(List.length l) : Int) ≤ (↑(List.length l) : Int)))
                    ((((((4 : Nat) + (Int.toNat (↑(List.length l) : Int) - (4 : Nat)) * (1 : Nat) ≤ List.length (bCells l) ∧ Plain (List.take ((Int.toNat (↑(List.length l) : Int) - (4 : Nat)) * (1 : Nat)) (List.drop (4 : Nat) (bCells l)))) ∧ True) ∧ ((True ∧ True) ∧ (True ∧ (IsB (Row.mk (List.take ((Int.toNat (↑(List.length l) : Int) - (4 : Nat)) * (1 : Nat)) (List.drop (4 : Nat) (bCells l))) true (Ob.cells true)) (Int.toNat (↑(List.length l) : Int) - (4 : Nat)) ∧ ((4 : Nat) ≤ Int.toNat (↑(List.length l) : Int) - (4 : Nat) ∧ Int.toNat (↑(List.length l) : Int) - (4 : Nat) ≤ (9223372036854775807 : Nat))))))) ∧
                    (br (decide ((0 : Int) ≤ (8 : Int) ∧ (8 : Int) ≤ (↑(List.length l) : Int) ∧ (↑(List.length l) : Int) ≤ (↑(List.length l) : Int)))
                     (br (decide ((8 : Nat) + (Int.toNat (↑(List.length l) : Int) - (8 : Nat)) * (1 : Nat) ≤ List.length (bCells l)))
                      (br (allOne (List.take ((Int.toNat (↑(List.length l) : Int) - (8 : Nat)) * (1 : Nat)) (List.drop (8 : Nat) (bCells l))))
                       (br (decide ((0 : Nat) + (Int.toNat (↑(List.length l) : Int) - (8 : Nat)) ≤ (16777216 : Nat)))
                        (br (decide ((0 : Int) ≤ (4 : Int) ∧ (4 : Int) ≤ (↑(List.length l) : Int) ∧ (↑(List.length l) : Int) ≤ (↑(List.length l) : Int)))
                         ((Value.slice (some (Addr.mk (0 : Nat) (4 : Nat) none)) (Int.toNat (↑(List.length l) : Int) - (4 : Nat)) (1 : Nat) = Value.slice (some (Addr.mk (0 : Nat) (4 : Nat) none)) (Int.toNat (↑(List.length l) : Int) - (4 : Nat)) (1 : Nat)) ∧
                         (br (decide ((0 : Int) ≤ (4 : Int) ∧ (4 : Int) ≤ (↑(List.length l) : Int) ∧ (↑(List.length l) : Int) ≤ (↑(List.length l) : Int)))
                          ((Value.slice (some (Addr.mk (0 : Nat) (4 : Nat) none)) (Int.toNat (↑(List.length l) : Int) - (4 : Nat)) (1 : Nat) = Value.slice (some (Addr.mk (0 : Nat) (4 : Nat) none)) (Int.toNat (↑(List.length l) : Int) - (4 : Nat)) (1 : Nat)) ∧
                          (br (decide ((0 : Int) ≤ (8 : Int) ∧ (8 : Int) ≤ (↑(List.length l) : Int) ∧ (↑(List.length l) : Int) ≤ (↑(List.length l) : Int)))
                           ((Value.slice (some (Addr.mk (0 : Nat) (8 : Nat) none)) (Int.toNat (↑(List.length l) : Int) - (8 : Nat)) (1 : Nat) = Value.slice (some (Addr.mk (0 : Nat) (8 : Nat) none)) (Int.toNat (↑(List.length l) : Int) - (8 : Nat)) (1 : Nat)) ∧
                           (br (decide ((0 : Int) ≤ (8 : Int) ∧ (8 : Int) ≤ (↑(List.length l) : Int) ∧ (↑(List.length l) : Int) ≤ (↑(List.length l) : Int)))
                            ((Value.slice (some (Addr.mk (0 : Nat) (8 : Nat) none)) (Int.toNat (↑(List.length l) : Int) - (8 : Nat)) (1 : Nat) = Value.slice (some (Addr.mk (0 : Nat) (8 : Nat) none)) (Int.toNat (↑(List.length l) : Int) - (8 : Nat)) (1 : Nat)) ∧
                            (br (decide ((0 : Int) ≤ (8 : Int) ∧ (8 : Int) ≤ (↑(List.length l) : Int) ∧ (↑(List.length l) : Int) ≤ (↑(List.length l) : Int)))
                             ((Value.slice (some (Addr.mk (0 : Nat) (8 : Nat) none)) (Int.toNat (↑(List.length l) : Int) - (8 : Nat)) (1 : Nat) = Value.slice (some (Addr.mk (0 : Nat) (8 : Nat) none)) (Int.toNat (↑(List.length l) : Int) - (8 : Nat)) (1 : Nat)) ∧
                             ((y.1 = ty) ∧
                             ((y.2 = st) ∧
                             ((y.3 = false) ∧
                             ((y.4 = false) ∧
                             ((y.5 = false) ∧
                             (((0 : Nat) = (0 : Nat)) ∧
                             ((List.length o = (0 : Nat) + (Int.toNat (↑(List.length l) : Int) - (8 : Nat))) ∧
                             ((y.6 = num4R (Row.mk (List.take ((Int.toNat (↑(List.length l) : Int) - (4 : Nat)) * (1 : Nat)) (List.drop (4 : Nat) (bCells l))) true (Ob.cells true))) ∧
                             ((y.7 = low4R (Row.mk (List.take (List.length l * (1 : Nat)) (List.drop (0 : Nat) (bCells l))) true (Ob.cells true))) ∧
                             ((y.8 = (0 : Int)) ∧
                             ((y.9 = (0 : Int)) ∧
                             ((List.length s = (0 : Nat)) ∧
                             ((sc = (0 : Int)) ∧
                             ((cd = (0 : Int)) ∧
                             ((sn = (0 : Int)) ∧
                             ((Eq (α := List Value) (bCells l) (bCells l)) ∧
                             ((Plain (bCells l)) ∧
                             ((Eq (α := List Value) (bCells o) ([] ++ List.take ((Int.toNat (↑(List.length l) : Int) - (8 : Nat)) * (1 : Nat)) (List.drop (8 : Nat) (bCells l)))) ∧
                             ((Plain (bCells o)) ∧
                             ((Eq (α := List Value) (gC seC s) ([])) ∧
                             True)))))))))))))))))))))
                             False))
                            False))
                           False))
                          False))
                         False)
                        False)
                       False)
                      False)
                     False))
                    False)))
                  (br (ty == (8 : Int))
                   (br (Int.ofNat (List.length l) != (4 : Int))
                    ((y.1 = (0 : Int)) ∧
                    ((y.2 = (0 : Int)) ∧
                    ((y.3 = false) ∧
                    ((y.4 = false) ∧
                    ((y.5 = false) ∧
                    ((List.length o = (0 : Nat)) ∧
                    ((y.6 = (0 : Int)) ∧
                    ((y.7 = (0 : Int)) ∧
                    ((y.8 = (0 : Int)) ∧
                    ((y.9 = (0 : Int)) ∧
                    ((List.length s = (0 : Nat)) ∧
                    ((sc = (2 : Int)) ∧
                    ((cd = (6 : Int)) ∧
                    ((sn = (0 : Int)) ∧
                    ((Eq (α := List Value) (bCells l) (bCells l)) ∧
                    ((Plain (bCells l)) ∧
                    ((Eq (α := List Value) (bCells o) ([])) ∧
                    ((Eq (α := List Value) (gC seC s) ([])) ∧
                    True))))))))))))))))))
                    ((((((0 : Nat) + List.length l * (1 : Nat) ≤ List.length (bCells l) ∧ Plain (List.take (List.length l * (1 : Nat)) (List.drop (0 : Nat) (bCells l)))) ∧ True) ∧ ((True ∧ True) ∧ (True ∧ (IsB (Row.mk (List.take (List.length l * (1 : Nat)) (List.drop (0 : Nat) (bCells l))) true (Ob.cells true)) (List.length l) ∧ ((4 : Nat) ≤ List.length l ∧ List.length l ≤ (9223372036854775807 : Nat))))))) ∧
                    (br (low4R (Row.mk (List.take (List.length l * (1 : Nat)) (List.drop (0 : Nat) (bCells l))) true (Ob.cells true)) == (0 : Int))
                     (br (st == (0 : Int))
                      ((y.1 = (0 : Int)) ∧
                      ((y.2 = (0 : Int)) ∧
                      ((y.3 = false) ∧
                      ((y.4 = false) ∧
                      ((y.5 = false) ∧
                      ((List.length o = (0 : Nat)) ∧
                      ((y.6 = (0 : Int)) ∧
                      ((y.7 = (0 : Int)) ∧
                      ((y.8 = (0 : Int)) ∧
                      ((y.9 = (0 : Int)) ∧
                      ((List.length s = (0 : Nat)) ∧
                      ((sc = (2 : Int)) ∧
                      ((cd = (1 : Int)) ∧
                      ((sn = (0 : Int)) ∧
                      ((Eq (α := List Value) (bCells l) (bCells l)) ∧
                      ((Plain (bCells l)) ∧
                      ((Eq (α := List Value) (bCells o) ([])) ∧
                      ((Eq (α := List Value) (gC seC s) ([])) ∧
                      True))))))))))))))))))
                      (br (low4R (Row.mk (List.take (List.length l * (1 : Nat)) (List.drop (0 : Nat) (bCells l))) true (Ob.cells true)) == (0 : Int))
                       ((y.1 = (0 : Int)) ∧
                       ((y.2 = (0 : Int)) ∧
                       ((y.3 = false) ∧
                       ((y.4 = false) ∧
                       ((y.5 = false) ∧
                       ((List.length o = (0 : Nat)) ∧
                       ((y.6 = (0 : Int)) ∧
                       ((y.7 = (0 : Int)) ∧
                       ((y.8 = (0 : Int)) ∧
                       ((y.9 = (0 : Int)) ∧
                       ((List.length s = (0 : Nat)) ∧
                       ((sc = (1 : Int)) ∧
                       ((cd = (1 : Int)) ∧
                       ((sn = st) ∧
                       ((Eq (α := List Value) (bCells l) (bCells l)) ∧
                       ((Plain (bCells l)) ∧
                       ((Eq (α := List Value) (bCells o) ([])) ∧
                       ((Eq (α := List Value) (gC seC s) ([])) ∧
                       True))))))))))))))))))
                       ((y.1 = ty) ∧
                       ((y.2 = st) ∧
                       ((y.3 = false) ∧
                       ((y.4 = false) ∧
                       ((y.5 = false) ∧
                       ((List.length o = (0 : Nat)) ∧
                       ((y.6 = (0 : Int)) ∧
                       ((y.7 = (0 : Int)) ∧
                       ((y.8 = low4R (Row.mk (List.take (List.length l * (1 : Nat)) (List.drop (0 : Nat) (bCells l))) true (Ob.cells true))) ∧
                       ((y.9 = (0 : Int)) ∧
                       ((List.length s = (0 : Nat)) ∧
                       ((sc = (0 : Int)) ∧
                       ((cd = (0 : Int)) ∧
                       ((sn = (0 : Int)) ∧
                       ((Eq (α := List Value) (bCells l) (bCells l)) ∧
                       ((Plain (bCells l)) ∧
                       ((Eq (α := List Value) (bCells o) ([])) ∧
                       ((Eq (α := List Value) (gC seC s) ([])) ∧
                       True))))))))))))))))))))
                     (br (low4R (Row.mk (List.take (List.length l * (1 : Nat)) (List.drop (0 : Nat) (bCells l))) true (Ob.cells true)) == (0 : Int))
                      ((y.1 = (0 : Int)) ∧
                      ((y.2 = (0 : Int)) ∧
                      ((y.3 = false) ∧
                      ((y.4 = false) ∧
                      ((y.5 = false) ∧
                      ((List.length o = (0 : Nat)) ∧
                      ((y.6 = (0 : Int)) ∧
                      ((y.7 = (0 : Int)) ∧
                      ((y.8 = (0 : Int)) ∧
                      ((y.9 = (0 : Int)) ∧
                      ((List.length s = (0 : Nat)) ∧
                      ((sc = (1 : Int)) ∧
                      ((cd = (1 : Int)) ∧
                      ((sn = st) ∧
                      ((Eq (α := List Value) (bCells l) (bCells l)) ∧
                      ((Plain (bCells l)) ∧
                      ((Eq (α := List Value) (bCells o) ([])) ∧
                      ((Eq (α := List Value) (gC seC s) ([])) ∧
                      True))))))))))))))))))
                      ((y.1 = ty) ∧
                      ((y.2 = st) ∧
                      ((y.3 = false) ∧
                      ((y.4 = false) ∧
                      ((y.5 = false) ∧
                      ((List.length o = (0 : Nat)) ∧
                      ((y.6 = (0 : Int)) ∧
                      ((y.7 = (0 : Int)) ∧
                      ((y.8 = low4R (Row.mk (List.take (List.length l * (1 : Nat)) (List.drop (0 : Nat) (bCells l))) true (Ob.cells true))) ∧
                      ((y.9 = (0 : Int)) ∧
                      ((List.length s = (0 : Nat)) ∧
                      ((sc = (0 : Int)) ∧
                      ((cd = (0 : Int)) ∧
                      ((sn = (0 : Int)) ∧
                      ((Eq (α := List Value) (bCells l) (bCells l)) ∧
                      ((Plain (bCells l)) ∧
                      ((Eq (α := List Value) (bCells o) ([])) ∧
                      ((Eq (α := List Value) (gC seC s) ([])) ∧
                      True))))))))))))))))))))))
                   (br (ty == (9 : Int))
                    (br (decide ((0 : Nat) + List.length l * (1 : Nat) ≤ List.length (bCells l)))
                     (br (allOne (List.take (List.length l * (1 : Nat)) (List.drop (0 : Nat) (bCells l))))
                      (br (decide ((0 : Nat) + List.length l ≤ (16777216 : Nat)))
                       ((Value.int IntKind.i64 fl = Value.int IntKind.i64 fl) ∧
                       ((Value.int IntKind.i64 fl = Value.int IntKind.i64 fl) ∧
                       ((y.1 = ty) ∧
                       ((y.2 = st) ∧
                       ((y.3 = false) ∧
                       ((y.4 = (iand IntKind.i64 fl (4 : Int) != (0 : Int))) ∧
                       ((y.5 = false) ∧
                       (((0 : Nat) = (0 : Nat)) ∧
                       ((List.length o = (0 : Nat) + List.length l) ∧
                       ((y.6 = (0 : Int)) ∧
                       ((y.7 = (0 : Int)) ∧
                       ((y.8 = (0 : Int)) ∧
                       ((y.9 = (0 : Int)) ∧
                       ((List.length s = (0 : Nat)) ∧
                       ((sc = (0 : Int)) ∧
                       ((cd = (0 : Int)) ∧
                       ((sn = (0 : Int)) ∧
                       ((Eq (α := List Value) (bCells l) (bCells l)) ∧
                       ((Plain (bCells l)) ∧
                       ((Eq (α := List Value) (bCells o) ([] ++ List.take (List.length l * (1 : Nat)) (List.drop (0 : Nat) (bCells l)))) ∧
                       ((Plain (bCells o)) ∧
                       ((Eq (α := List Value) (gC seC s) ([])) ∧
                       True))))))))))))))))))))))
                       False)
                      False)
                     False)
                    ((y.1 = ty) ∧
                    ((y.2 = st) ∧
                    ((y.3 = false) ∧
                    ((y.4 = false) ∧
                    ((y.5 = false) ∧
                    ((List.length o = (0 : Nat)) ∧
                    ((y.6 = (0 : Int)) ∧
                    ((y.7 = (0 : Int)) ∧
                    ((y.8 = (0 : Int)) ∧
                    ((y.9 = (0 : Int)) ∧
                    ((List.length s = (0 : Nat)) ∧
                    ((sc = (0 : Int)) ∧
                    ((cd = (0 : Int)) ∧
                    ((sn = (0 : Int)) ∧
                    ((Eq (α := List Value) (bCells l) (bCells l)) ∧
                    ((Plain (bCells l)) ∧
                    ((Eq (α := List Value) (bCells o) ([])) ∧
                    ((Eq (α := List Value) (gC seC s) ([])) ∧
                    True)))))))))))))))))))))))))))))
         (br (ty == (5 : Int))
          ((y.1 = (0 : Int)) ∧
          ((y.2 = (0 : Int)) ∧
          ((y.3 = false) ∧
          ((y.4 = false) ∧
          ((y.5 = false) ∧
          ((List.length o = (0 : Nat)) ∧
          ((y.6 = (0 : Int)) ∧
          ((y.7 = (0 : Int)) ∧
          ((y.8 = (0 : Int)) ∧
          ((y.9 = (0 : Int)) ∧
          ((List.length s = (0 : Nat)) ∧
          ((sc = (2 : Int)) ∧
          ((cd = (1 : Int)) ∧
          ((sn = (0 : Int)) ∧
          ((Eq (α := List Value) (bCells l) (bCells l)) ∧
          ((Plain (bCells l)) ∧
          ((Eq (α := List Value) (bCells o) ([])) ∧
          ((Eq (α := List Value) (gC seC s) ([])) ∧
          True))))))))))))))))))
          (br (ty == (0 : Int))
           (((((True ∧ (True ∧ (True ∧ (((0 : Nat) + List.length l * (1 : Nat) ≤ List.length (bCells l) ∧ Plain (List.take (List.length l * (1 : Nat)) (List.drop (0 : Nat) (bCells l)))) ∧ True)))) ∧ ((True ∧ (True ∧ (True ∧ (True ∧ (True ∧ (True ∧ (True ∧ (True ∧ (True ∧ (True ∧ (True ∧ True))))))))))) ∧ True)) ∧ ((True ∧ True) ∧ ((Plain (lBc ty fl st (Row.mk (List.take (List.length l * (1 : Nat)) (List.drop (0 : Nat) (bCells l))) true (Ob.cells true))) ∧ True) ∧ (IsB (Row.mk (List.take (List.length l * (1 : Nat)) (List.drop (0 : Nat) (bCells l))) true (Ob.cells true)) (List.length l) ∧ (List.length l ≤ (16777216 : Nat) ∧ Ty01 ty)))))) ∧
           ((y.1 = lI ty ty fl st (Row.mk (List.take (List.length l * (1 : Nat)) (List.drop (0 : Nat) (bCells l))) true (Ob.cells true))) ∧
           ((y.2 = lI st ty fl st (Row.mk (List.take (List.length l * (1 : Nat)) (List.drop (0 : Nat) (bCells l))) true (Ob.cells true))) ∧
           ((y.3 = lE ty fl st (Row.mk (List.take (List.length l * (1 : Nat)) (List.drop (0 : Nat) (bCells l))) true (Ob.cells true))) ∧
           ((y.4 = lF false ty fl st (Row.mk (List.take (List.length l * (1 : Nat)) (List.drop (0 : Nat) (bCells l))) true (Ob.cells true))) ∧
           ((y.5 = lZ false ty fl st (Row.mk (List.take (List.length l * (1 : Nat)) (List.drop (0 : Nat) (bCells l))) true (Ob.cells true))) ∧
           (((0 : Nat) = (0 : Nat)) ∧
           ((List.length o = lBn ty fl st (Row.mk (List.take (List.length l * (1 : Nat)) (List.drop (0 : Nat) (bCells l))) true (Ob.cells true))) ∧
           ((y.6 = lI (0 : Int) ty fl st (Row.mk (List.take (List.length l * (1 : Nat)) (List.drop (0 : Nat) (bCells l))) true (Ob.cells true))) ∧
           ((y.7 = lI (0 : Int) ty fl st (Row.mk (List.take (List.length l * (1 : Nat)) (List.drop (0 : Nat) (bCells l))) true (Ob.cells true))) ∧
           ((y.8 = lI (0 : Int) ty fl st (Row.mk (List.take (List.length l * (1 : Nat)) (List.drop (0 : Nat) (bCells l))) true (Ob.cells true))) ∧
           ((y.9 = lCs (0 : Int) ty fl st (Row.mk (List.take (List.length l * (1 : Nat)) (List.drop (0 : Nat) (bCells l))) true (Ob.cells true))) ∧
           ((List.length s = (0 : Nat)) ∧
           ((sc = lScR ty fl st (Row.mk (List.take (List.length l * (1 : Nat)) (List.drop (0 : Nat) (bCells l))) true (Ob.cells true))) ∧
           ((cd = lCdR ty fl st (Row.mk (List.take (List.length l * (1 : Nat)) (List.drop (0 : Nat) (bCells l))) true (Ob.cells true))) ∧
           ((sn = lSnR ty fl st (Row.mk (List.take (List.length l * (1 : Nat)) (List.drop (0 : Nat) (bCells l))) true (Ob.cells true))) ∧
           ((Eq (α := List Value) (bCells l) (bCells l)) ∧
           ((Plain (bCells l)) ∧
           ((Eq (α := List Value) (bCells o) (lBc ty fl st (Row.mk (List.take (List.length l * (1 : Nat)) (List.drop (0 : Nat) (bCells l))) true (Ob.cells true)))) ∧
           ((Plain (bCells o)) ∧
           ((Eq (α := List Value) (gC seC s) ([])) ∧
           True)))))))))))))))))))))
           (br (ty == (1 : Int))
            (((((True ∧ (True ∧ (True ∧ (((0 : Nat) + List.length l * (1 : Nat) ≤ List.length (bCells l) ∧ Plain (List.take (List.length l * (1 : Nat)) (List.drop (0 : Nat) (bCells l)))) ∧ True)))) ∧ ((True ∧ (True ∧ (True ∧ (True ∧ (True ∧ (True ∧ (True ∧ (True ∧ (True ∧ (True ∧ (True ∧ True))))))))))) ∧ True)) ∧ ((True ∧ True) ∧ ((Plain (lBc ty fl st (Row.mk (List.take (List.length l * (1 : Nat)) (List.drop (0 : Nat) (bCells l))) true (Ob.cells true))) ∧ True) ∧ (IsB (Row.mk (List.take (List.length l * (1 : Nat)) (List.drop (0 : Nat) (bCells l))) true (Ob.cells true)) (List.length l) ∧ (List.length l ≤ (16777216 : Nat) ∧ Ty01 ty)))))) ∧
            ((y.1 = lI ty ty fl st (Row.mk (List.take (List.length l * (1 : Nat)) (List.drop (0 : Nat) (bCells l))) true (Ob.cells true))) ∧
            ((y.2 = lI st ty fl st (Row.mk (List.take (List.length l * (1 : Nat)) (List.drop (0 : Nat) (bCells l))) true (Ob.cells true))) ∧
            ((y.3 = lE ty fl st (Row.mk (List.take (List.length l * (1 : Nat)) (List.drop (0 : Nat) (bCells l))) true (Ob.cells true))) ∧
            ((y.4 = lF false ty fl st (Row.mk (List.take (List.length l * (1 : Nat)) (List.drop (0 : Nat) (bCells l))) true (Ob.cells true))) ∧
            ((y.5 = lZ false ty fl st (Row.mk (List.take (List.length l * (1 : Nat)) (List.drop (0 : Nat) (bCells l))) true (Ob.cells true))) ∧
            (((0 : Nat) = (0 : Nat)) ∧
            ((List.length o = lBn ty fl st (Row.mk (List.take (List.length l * (1 : Nat)) (List.drop (0 : Nat) (bCells l))) true (Ob.cells true))) ∧
            ((y.6 = lI (0 : Int) ty fl st (Row.mk (List.take (List.length l * (1 : Nat)) (List.drop (0 : Nat) (bCells l))) true (Ob.cells true))) ∧
            ((y.7 = lI (0 : Int) ty fl st (Row.mk (List.take (List.length l * (1 : Nat)) (List.drop (0 : Nat) (bCells l))) true (Ob.cells true))) ∧
            ((y.8 = lI (0 : Int) ty fl st (Row.mk (List.take (List.length l * (1 : Nat)) (List.drop (0 : Nat) (bCells l))) true (Ob.cells true))) ∧
            ((y.9 = lCs (0 : Int) ty fl st (Row.mk (List.take (List.length l * (1 : Nat)) (List.drop (0 : Nat) (bCells l))) true (Ob.cells true))) ∧
            ((List.length s = (0 : Nat)) ∧
            ((sc = lScR ty fl st (Row.mk (List.take (List.length l * (1 : Nat)) (List.drop (0 : Nat) (bCells l))) true (Ob.cells true))) ∧
            ((cd = lCdR ty fl st (Row.mk (List.take (List.length l * (1 : Nat)) (List.drop (0 : Nat) (bCells l))) true (Ob.cells true))) ∧
            ((sn = lSnR ty fl st (Row.mk (List.take (List.length l * (1 : Nat)) (List.drop (0 : Nat) (bCells l))) true (Ob.cells true))) ∧
            ((Eq (α := List Value) (bCells l) (bCells l)) ∧
            ((Plain (bCells l)) ∧
            ((Eq (α := List Value) (bCells o) (lBc ty fl st (Row.mk (List.take (List.length l * (1 : Nat)) (List.drop (0 : Nat) (bCells l))) true (Ob.cells true)))) ∧
            ((Plain (bCells o)) ∧
            ((Eq (α := List Value) (gC seC s) ([])) ∧
            True)))))))))))))))))))))
            (br (ty == (2 : Int))
             (br (Int.ofNat (List.length l) != (5 : Int))
              ((y.1 = (0 : Int)) ∧
              ((y.2 = (0 : Int)) ∧
              ((y.3 = false) ∧
              ((y.4 = false) ∧
              ((y.5 = false) ∧
              ((List.length o = (0 : Nat)) ∧
              ((y.6 = (0 : Int)) ∧
              ((y.7 = (0 : Int)) ∧
              ((y.8 = (0 : Int)) ∧
              ((y.9 = (0 : Int)) ∧
              ((List.length s = (0 : Nat)) ∧
              ((sc = (1 : Int)) ∧
              ((cd = (6 : Int)) ∧
              ((sn = st) ∧
              ((Eq (α := List Value) (bCells l) (bCells l)) ∧
              ((Plain (bCells l)) ∧
              ((Eq (α := List Value) (bCells o) ([])) ∧
              ((Eq (α := List Value) (gC seC s) ([])) ∧
              True))))))))))))))))))
              ((((((0 : Nat) + List.length l * (1 : Nat) ≤ List.length (bCells l) ∧ Plain (List.take (List.length l * (1 : Nat)) (List.drop (0 : Nat) (bCells l)))) ∧ True) ∧ ((True ∧ True) ∧ (True ∧ (IsB (Row.mk (List.take (List.length l * (1 : Nat)) (List.drop (0 : Nat) (bCells l))) true (Ob.cells true)) (List.length l) ∧ ((4 : Nat) ≤ List.length l ∧ List.length l ≤ (9223372036854775807 : Nat))))))) ∧
              ((Value.int IntKind.i64 st = Value.int IntKind.i64 st) ∧
              ((Value.int IntKind.i64 st = Value.int IntKind.i64 st) ∧
              (br (low4R (Row.mk (List.take (List.length l * (1 : Nat)) (List.drop (0 : Nat) (bCells l))) true (Ob.cells true)) == st)
               ((y.1 = (0 : Int)) ∧
               ((y.2 = (0 : Int)) ∧
               ((y.3 = false) ∧
               ((y.4 = false) ∧
               ((y.5 = false) ∧
               ((List.length o = (0 : Nat)) ∧
               ((y.6 = (0 : Int)) ∧
               ((y.7 = (0 : Int)) ∧
               ((y.8 = (0 : Int)) ∧
               ((y.9 = (0 : Int)) ∧
               ((List.length s = (0 : Nat)) ∧
               ((sc = (1 : Int)) ∧
               ((cd = (1 : Int)) ∧
               ((sn = st) ∧
               ((Eq (α := List Value) (bCells l) (bCells l)) ∧
               ((Plain (bCells l)) ∧
               ((Eq (α := List Value) (bCells o) ([])) ∧
               ((Eq (α := List Value) (gC seC s) ([])) ∧
               True))))))))))))))))))
               ((y.1 = ty) ∧
               ((y.2 = st) ∧
               ((y.3 = false) ∧
               ((y.4 = false) ∧
               ((y.5 = false) ∧
               ((List.length o = (0 : Nat)) ∧
               ((y.6 = (0 : Int)) ∧
               ((y.7 = (0 : Int)) ∧
               ((y.8 = (0 : Int)) ∧
               ((y.9 = (0 : Int)) ∧
               ((List.length s = (0 : Nat)) ∧
               ((sc = (0 : Int)) ∧
               ((cd = (0 : Int)) ∧
               ((sn = (0 : Int)) ∧
               ((Eq (α := List Value) (bCells l) (bCells l)) ∧
               ((Plain (bCells l)) ∧
               ((Eq (α := List Value) (bCells o) ([])) ∧
               ((Eq (α := List Value) (gC seC s) ([])) ∧
               True)))))))))))))))))))))))
             (br (ty == (3 : Int))
              (br (Int.ofNat (List.length l) != (4 : Int))
               ((y.1 = (0 : Int)) ∧
               ((y.2 = (0 : Int)) ∧
               ((y.3 = false) ∧
               ((y.4 = false) ∧
               ((y.5 = false) ∧
               ((List.length o = (0 : Nat)) ∧
               ((y.6 = (0 : Int)) ∧
               ((y.7 = (0 : Int)) ∧
               ((y.8 = (0 : Int)) ∧
               ((y.9 = (0 : Int)) ∧
               ((List.length s = (0 : Nat)) ∧
               ((sc = (2 : Int)) ∧
               ((cd = (6 : Int)) ∧
               ((sn = (0 : Int)) ∧
               ((Eq (α := List Value) (bCells l) (bCells l)) ∧
               ((Plain (bCells l)) ∧
               ((Eq (α := List Value) (bCells o) ([])) ∧
               ((Eq (α := List Value) (gC seC s) ([])) ∧
               True))))))))))))))))))
               ((((((0 : Nat) + List.length l * (1 : Nat) ≤ List.length (bCells l) ∧ Plain (List.take (List.length l * (1 : Nat)) (List.drop (0 : Nat) (bCells l)))) ∧ True) ∧ ((True ∧ True) ∧ (True ∧ (IsB (Row.mk (List.take (List.length l * (1 : Nat)) (List.drop (0 : Nat) (bCells l))) true (Ob.cells true)) (List.length l) ∧ ((4 : Nat) ≤ List.length l ∧ List.length l ≤ (9223372036854775807 : Nat))))))) ∧
               ((y.1 = ty) ∧
               ((y.2 = st) ∧
               ((y.3 = false) ∧
               ((y.4 = false) ∧
               ((y.5 = false) ∧
               ((List.length o = (0 : Nat)) ∧
               ((y.6 = num4R (Row.mk (List.take (List.length l * (1 : Nat)) (List.drop (0 : Nat) (bCells l))) true (Ob.cells true))) ∧
               ((y.7 = (0 : Int)) ∧
               ((y.8 = (0 : Int)) ∧
               ((y.9 = (0 : Int)) ∧
               ((List.length s = (0 : Nat)) ∧
               ((sc = (0 : Int)) ∧
               ((cd = (0 : Int)) ∧
               ((sn = (0 : Int)) ∧
               ((Eq (α := List Value) (bCells l) (bCells l)) ∧
               ((Plain (bCells l)) ∧
               ((Eq (α := List Value) (bCells o) ([])) ∧
               ((Eq (α := List Value) (gC seC s) ([])) ∧
               True))))))))))))))))))))
              (br (ty == (4 : Int))
               (((((True ∧ (True ∧ (True ∧ (((0 : Nat) + List.length l * (1 : Nat) ≤ List.length (bCells l) ∧ Plain (List.take (List.length l * (1 : Nat)) (List.drop (0 : Nat) (bCells l)))) ∧ True)))) ∧ ((True ∧ (True ∧ (True ∧ (True ∧ (True ∧ (True ∧ (True ∧ (True ∧ (True ∧ (True ∧ (True ∧ True))))))))))) ∧ True)) ∧ ((True ∧ True) ∧ ((Plain (rsC fl (Row.mk (List.take (List.length l * (1 : Nat)) (List.drop (0 : Nat) (bCells l))) true (Ob.cells true))) ∧ True) ∧ (IsB (Row.mk (List.take (List.length l * (1 : Nat)) (List.drop (0 : Nat) (bCells l))) true (Ob.cells true)) (List.length l) ∧ List.length l ≤ (16777216 : Nat)))))) ∧
               ((y.1 = rsI ty fl (Row.mk (List.take (List.length l * (1 : Nat)) (List.drop (0 : Nat) (bCells l))) true (Ob.cells true))) ∧
               ((y.2 = rsI st fl (Row.mk (List.take (List.length l * (1 : Nat)) (List.drop (0 : Nat) (bCells l))) true (Ob.cells true))) ∧
               ((y.3 = rsB false fl (Row.mk (List.take (List.length l * (1 : Nat)) (List.drop (0 : Nat) (bCells l))) true (Ob.cells true))) ∧
               ((y.4 = rsB false fl (Row.mk (List.take (List.length l * (1 : Nat)) (List.drop (0 : Nat) (bCells l))) true (Ob.cells true))) ∧
               ((y.5 = rsB (bit fl (1 : Int)) fl (Row.mk (List.take (List.length l * (1 : Nat)) (List.drop (0 : Nat) (bCells l))) true (Ob.cells true))) ∧
               ((List.length o = (0 : Nat)) ∧
               ((y.6 = rsI (0 : Int) fl (Row.mk (List.take (List.length l * (1 : Nat)) (List.drop (0 : Nat) (bCells l))) true (Ob.cells true))) ∧
               ((y.7 = rsI (0 : Int) fl (Row.mk (List.take (List.length l * (1 : Nat)) (List.drop (0 : Nat) (bCells l))) true (Ob.cells true))) ∧
               ((y.8 = rsI (0 : Int) fl (Row.mk (List.take (List.length l * (1 : Nat)) (List.drop (0 : Nat) (bCells l))) true (Ob.cells true))) ∧
               ((y.9 = rsI (0 : Int) fl (Row.mk (List.take (List.length l * (1 : Nat)) (List.drop (0 : Nat) (bCells l))) true (Ob.cells true))) ∧
               (((0 : Nat) = (0 : Nat)) ∧
               ((List.length s = rsN fl (Row.mk (List.take (List.length l * (1 : Nat)) (List.drop (0 : Nat) (bCells l))) true (Ob.cells true))) ∧
               ((sc = stScR fl (Row.mk (List.take (List.length l * (1 : Nat)) (List.drop (0 : Nat) (bCells l))) true (Ob.cells true))) ∧
               ((cd = stCdR fl (Row.mk (List.take (List.length l * (1 : Nat)) (List.drop (0 : Nat) (bCells l))) true (Ob.cells true))) ∧
               ((sn = (0 : Int)) ∧
               ((Eq (α := List Value) (bCells l) (bCells l)) ∧
               ((Plain (bCells l)) ∧
               ((Eq (α := List Value) (bCells o) ([])) ∧
               ((Eq (α := List Value) (gC seC s) (rsC fl (Row.mk (List.take (List.length l * (1 : Nat)) (List.drop (0 : Nat) (bCells l))) true (Ob.cells true)))) ∧
               ((Plain (gC seC s)) ∧
               True)))))))))))))))))))))
               (br (ty == (6 : Int))
                (br (Int.ofNat (List.length l) != (8 : Int))
                 ((y.1 = (0 : Int)) ∧
                 ((y.2 = (0 : Int)) ∧
                 ((y.3 = false) ∧
                 ((y.4 = false) ∧
                 ((y.5 = false) ∧
                 ((List.length o = (0 : Nat)) ∧
                 ((y.6 = (0 : Int)) ∧
                 ((y.7 = (0 : Int)) ∧
                 ((y.8 = (0 : Int)) ∧
                 ((y.9 = (0 : Int)) ∧
                 ((List.length s = (0 : Nat)) ∧
                 ((sc = (2 : Int)) ∧
                 ((cd = (6 : Int)) ∧
                 ((sn = (0 : Int)) ∧
                 ((Eq (α := List Value) (bCells l) (bCells l)) ∧
                 ((Plain (bCells l)) ∧
                 ((Eq (α := List Value) (bCells o) ([])) ∧
                 ((Eq (α := List Value) (gC seC s) ([])) ∧
                 True))))))))))))))))))
                 (br (decide ((0 : Nat) + List.length l * (1 : Nat) ≤ List.length (bCells l)))
                  (br (allOne (List.take (List.length l * (1 : Nat)) (List.drop (0 : Nat) (bCells l))))
                   (br (decide ((0 : Nat) + List.length l ≤ (16777216 : Nat)))
                    ((Value.int IntKind.i64 fl = Value.int IntKind.i64 fl) ∧
                    ((Value.int IntKind.i64 fl = Value.int IntKind.i64 fl) ∧
                    ((y.1 = ty) ∧
                    ((y.2 = st) ∧
                    ((y.3 = false) ∧
                    ((y.4 = false) ∧
                    ((y.5 = (iand IntKind.i64 fl (1 : Int) != (0 : Int))) ∧
                    (((0 : Nat) = (0 : Nat)) ∧
                    ((List.length o = (0 : Nat) + List.length l) ∧
                    ((y.6 = (0 : Int)) ∧
                    ((y.7 = (0 : Int)) ∧
                    ((y.8 = (0 : Int)) ∧
                    ((y.9 = (0 : Int)) ∧
                    ((List.length s = (0 : Nat)) ∧
                    ((sc = (0 : Int)) ∧
                    ((cd = (0 : Int)) ∧
                    ((sn = (0 : Int)) ∧
                    ((Eq (α := List Value) (bCells l) (bCells l)) ∧
                    ((Plain (bCells l)) ∧
                    ((Eq (α := List Value) (bCells o) ([] ++ List.take (List.length l * (1 : Nat)) (List.drop (0 : Nat) (bCells l)))) ∧
                    ((Plain (bCells o)) ∧
                    ((Eq (α := List Value) (gC seC s) ([])) ∧
                    True))))))))))))))))))))))
                    False)
                   False)
                  False))
                (br (ty == (7 : Int))
                 (br (decide (Int.ofNat (List.length l) < (8 : Int)))
                  ((y.1 = (0 : Int)) ∧
                  ((y.2 = (0 : Int)) ∧
                  ((y.3 = false) ∧
                  ((y.4 = false) ∧
                  ((y.5 = false) ∧
                  ((List.length o = (0 : Nat)) ∧
                  ((y.6 = (0 : Int)) ∧
                  ((y.7 = (0 : Int)) ∧
                  ((y.8 = (0 : Int)) ∧
                  ((y.9 = (0 : Int)) ∧
                  ((List.length s = (0 : Nat)) ∧
                  ((sc = (2 : Int)) ∧
                  ((cd = (6 : Int)) ∧
                  ((sn = (0 : Int)) ∧
                  ((Eq (α := List Value) (bCells l) (bCells l)) ∧
                  ((Plain (bCells l)) ∧
                  ((Eq (α := List Value) (bCells o) ([])) ∧
                  ((Eq (α := List Value) (gC seC s) ([])) ∧
                  True))))))))))))))))))
                  ((((((0 : Nat) + List.length l * (1 : Nat) ≤ List.length (bCells l) ∧ Plain (List.take (List.length l * (1 : Nat)) (List.drop (0 : Nat) (bCells l)))) ∧ True) ∧ ((True ∧ True) ∧ (True ∧ (IsB (Row.mk (List.take (List.length l * (1 : Nat)) (List.drop (0 : Nat) (bCells l))) true (Ob.cells true)) (List.length l) ∧ ((4 : Nat) ≤ List.length l ∧ List.length l ≤ (9223372036854775807 : Nat))))))) ∧
                  (br (decide ((0 : Int) ≤ (4 : Int) ∧ (4 : Int) ≤ (↑(List.length l) : Int) ∧ (↑(List.length l) : Int) ≤ (↑(List.length l) : Int)))
                   ((((((4 : Nat) + (Int.toNat (↑(List.length l) : Int) - (4 : Nat)) * (1 : Nat) ≤ List.length (bCells l) ∧ Plain (List.take ((Int.toNat (↑(List.length l) : Int) - (4 : Nat)) * (1 : Nat)) (List.drop (4 : Nat) (bCells l)))) ∧ True) ∧ ((True ∧ True) ∧ (True ∧ (IsB (Row.mk (List.take ((Int.toNat (↑(List.length l) : Int) - (4 : Nat)) * (1 : Nat)) (List.drop (4 : Nat) (bCells l))) true (Ob.cells true)) (Int.toNat (↑(List.length l) : Int) - (4 : Nat)) ∧ ((4 : Nat) ≤ Int.toNat (↑(List.length l) : Int) - (4 : Nat) ∧ Int.toNat (↑(List.length l) : Int) - (4 : Nat) ≤ (9223372036854775807 : Nat))))))) ∧
                   (br (decide ((0 : Int) ≤ (8 : Int) ∧ (8 : Int) ≤ (↑(List.length l) : Int) ∧ (↑(List.length l) : Int) ≤ (↑(List.length l) : Int)))
                    (br (decide ((8 : Nat) + (Int.toNat (↑(List.length l) : Int) - (8 : Nat)) * (1 : Nat) ≤ List.length (bCells l)))
                     (br (allOne (List.take ((Int.toNat (↑(List.length l) : Int) - (8 : Nat)) * (1 : Nat)) (List.drop (8 : Nat) (bCells l))))
                      (br (decide ((0 : Nat) + (Int.toNat (↑(List.length l) : Int) - (8 : Nat)) ≤ (16777216 : Nat)))
                       (br (decide ((0 : Int) ≤ (4 : Int) ∧ (4 : Int) ≤ (↑(List.length l) : Int) ∧ (↑(List.length l) : Int) ≤ (↑(List.length l) : Int)))
                        ((Value.slice (some (Addr.mk (0 : Nat) (4 : Nat) none)) (Int.toNat (↑(List.length l) : Int) - (4 : Nat)) (1 : Nat) = Value.slice (some (Addr.mk (0 : Nat) (4 : Nat) none)) (Int.toNat (↑(List.length l) : Int) - (4 : Nat)) (1 : Nat)) ∧
                        (br (decide ((0 : Int) ≤ (4 : Int) ∧ (4 : Int) ≤ (↑(List.length l) : Int) ∧ (↑(List.length l) : Int) ≤ (↑(List.length l) : Int)))
                         ((Value.slice (some (Addr.mk (0 : Nat) (4 : Nat) none)) (Int.toNat (↑(List.length l) : Int) - (4 : Nat)) (1 : Nat) = Value.slice (some (Addr.mk (0 : Nat) (4 : Nat) none)) (Int.toNat (↑(List.length l) : Int) - (4 : Nat)) (1 : Nat)) ∧
                         (br (decide ((0 : Int) ≤ (8 : Int) ∧ (8 : Int) ≤ (↑(List.length l) : Int) ∧ (↑(List.length l) : Int) ≤ (↑(List.length l) : Int)))
                          ((Value.slice (some (Addr.mk (0 : Nat) (8 : Nat) none)) (Int.toNat (↑(List.length l) : Int) - (8 : Nat)) (1 : Nat) = Value.slice (some (Addr.mk (0 : Nat) (8 : Nat) none)) (Int.toNat (↑(List.length l) : Int) - (8 : Nat)) (1 : Nat)) ∧
                          (br (decide ((0 : Int) ≤ (8 : Int) ∧ (8 : Int) ≤ (↑(List.length l) : Int) ∧ (↑(List.length l) : Int) ≤ (↑(List.length l) : Int)))
                           ((Value.slice (some (Addr.mk (0 : Nat) (8 : Nat) none)) (Int.toNat (↑(List.length l) : Int) - (8 : Nat)) (1 : Nat) = Value.slice (some (Addr.mk (0 : Nat) (8 : Nat) none)) (Int.toNat (↑(List.length l) : Int) - (8 : Nat)) (1 : Nat)) ∧
                           (br (decide ((0 : Int) ≤ (8 : Int) ∧ (8 : Int) ≤ (↑(List.length l) : Int) ∧ (↑(List.length l) : Int) ≤ (↑(List.length l) : Int)))
                            ((Value.slice (some (Addr.mk (0 : Nat) (8 : Nat) none)) (Int.toNat (↑(List.length l) : Int) - (8 : Nat)) (1 : Nat) = Value.slice (some (Addr.mk (0 : Nat) (8 : Nat) none)) (Int.toNat (↑(List.length l) : Int) - (8 : Nat)) (1 : Nat)) ∧
                            ((y.1 = ty) ∧
                            ((y.2 = st) ∧
                            ((y.3 = false) ∧
                            ((y.4 = false) ∧
                            ((y.5 = false) ∧
                            (((0 : Nat) = (0 : Nat)) ∧
                            ((List.length o = (0 : Nat) + (Int.toNat (↑(List.length l) : Int) - (8 : Nat))) ∧
                            ((y.6 = num4R (Row.mk (List.take ((Int.toNat (↑(List.length l) : Int) - (4 : Nat)) * (1 : Nat)) (List.drop (4 : Nat) (bCells l))) true (Ob.cells true))) ∧
                            ((y.7 = low4R (Row.mk (List.take (List.length l * (1 : Nat)) (List.drop (0 : Nat) (bCells l))) true (Ob.cells true))) ∧
                            ((y.8 = (0 : Int)) ∧
                            ((y.9 = (0 : Int)) ∧
                            ((List.length s = (0 : Nat)) ∧
                            ((sc = (0 : Int)) ∧
                            ((cd = (0 : Int)) ∧
                            ((sn = (0 : Int)) ∧
                            ((Eq (α := List Value) (bCells l) (bCells l)) ∧
                            ((Plain (bCells l)) ∧
                            ((Eq (α := List Value) (bCells o) ([] ++ List.take ((Int.toNat (↑(List.length l) : Int) - (8 : Nat)) * (1 : Nat)) (List.drop (8 : Nat) (bCells l)))) ∧
                            ((Plain (bCells o)) ∧
                            ((Eq (α := List Value) (gC seC s) ([])) ∧
                            True)))))))))))))))))))))
                            False))
                           False))
                          False))
                         False))
                        False)
                       False)
                      False)
                     False)
                    False))
                   False)))
                 (br (ty == (8 : Int))
                  (br (Int.ofNat (List.length l) != (4 : Int))
                   ((y.1 = (0 : Int)) ∧
                   ((y.2 = (0 : Int)) ∧
                   ((y.3 = false) ∧
                   ((y.4 = false) ∧
                   ((y.5 = false) ∧
                   ((List.length o = (0 : Nat)) ∧
                   ((y.6 = (0 : Int)) ∧
                   ((y.7 = (0 : Int)) ∧
                   ((y.8 = (0 : Int)) ∧
                   ((y.9 = (0 : Int)) ∧
                   ((List.length s = (0 : Nat)) ∧
                   ((sc = (2 : Int)) ∧
                   ((cd = (6 : Int)) ∧
                   ((sn = (0 : Int)) ∧
                   ((Eq (α := List Value) (bCells l) (bCells l)) ∧
                   ((Plain (bCells l)) ∧
                   ((Eq (α := List Value) (bCells o) ([])) ∧
                   ((Eq (α := List Value) (gC seC s) ([])) ∧
                   True))))))))))))))))))
                   ((((((0 : Nat) + List.length l * (1 : Nat) ≤ List.length (bCells l) ∧ Plain (List.take (List.length l * (1 : Nat)) (List.drop (0 : Nat) (bCells l)))) ∧ True) ∧ ((True ∧ True) ∧ (True ∧ (IsB (Row.mk (List.take (List.length l * (1 : Nat)) (List.drop (0 : Nat) (bCells l))) true (Ob.cells true)) (List.length l) ∧ ((4 : Nat) ≤ List.length l ∧ List.length l ≤ (9223372036854775807 : Nat))))))) ∧
                   (br (low4R (Row.mk (List.take (List.length l * (1 : Nat)) (List.drop (0 : Nat) (bCells l))) true (Ob.cells true)) == (0 : Int))
                    (br (st == (0 : Int))
                     ((y.1 = (0 : Int)) ∧
                     ((y.2 = (0 : Int)) ∧
                     ((y.3 = false) ∧
                     ((y.4 = false) ∧
                     ((y.5 = false) ∧
                     ((List.length o = (0 : Nat)) ∧
                     ((y.6 = (0 : Int)) ∧
                     ((y.7 = (0 : Int)) ∧
                     ((y.8 = (0 : Int)) ∧
                     ((y.9 = (0 : Int)) ∧
                     ((List.length s = (0 : Nat)) ∧
                     ((sc = (2 : Int)) ∧
                     ((cd = (1 : Int)) ∧
                     ((sn = (0 : Int)) ∧
                     ((Eq (α := List Value) (bCells l) (bCells l)) ∧
                     ((Plain (bCells l)) ∧
                     ((Eq (α := List Value) (bCells o) ([])) ∧
                     ((Eq (α := List Value) (gC seC s) ([])) ∧
                     True))))))))))))))))))
                     (br (low4R (Row.mk (List.take (List.length l * (1 : Nat)) (List.drop (0 : Nat) (bCells l))) true (Ob.cells true)) == (0 : Int))
                      ((y.1 = (0 : Int)) ∧
                      ((y.2 = (0 : Int)) ∧
                      ((y.3 = false) ∧
                      ((y.4 = false) ∧
                      ((y.5 = false) ∧
                      ((List.length o = (0 : Nat)) ∧
                      ((y.6 = (0 : Int)) ∧
                      ((y.7 = (0 : Int)) ∧
                      ((y.8 = (0 : Int)) ∧
                      ((y.9 = (0 : Int)) ∧
                      ((List.length s = (0 : Nat)) ∧
                      ((sc = (1 : Int)) ∧
                      ((cd = (1 : Int)) ∧
                      ((sn = st) ∧
                      ((Eq (α := List Value) (bCells l) (bCells l)) ∧
                      ((Plain (bCells l)) ∧
                      ((Eq (α := List Value) (bCells o) ([])) ∧
                      ((Eq (α := List Value) (gC seC s) ([])) ∧
                      True))))))))))))))))))
                      ((y.1 = ty) ∧
                      ((y.2 = st) ∧
                      ((y.3 = false) ∧
                      ((y.4 = false) ∧
                      ((y.5 = false) ∧
                      ((List.length o = (0 : Nat)) ∧
                      ((y.6 = (0 : Int)) ∧
                      ((y.7 = (0 : Int)) ∧
                      ((y.8 = low4R (Row.mk (List.take (List.length l * (1 : Nat)) (List.drop (0 : Nat) (bCells l))) true (Ob.cells true))) ∧
                      ((y.9 = (0 : Int)) ∧
                      ((List.length s = (0 : Nat)) ∧
                      ((sc = (0 : Int)) ∧
                      ((cd = (0 : Int)) ∧
                      ((sn = (0 : Int)) ∧
                      ((Eq (α := List Value) (bCells l) (bCells l)) ∧
                      ((Plain (bCells l)) ∧
                      ((Eq (α := List Value) (bCells o) ([])) ∧
                      ((Eq (α := List Value) (gC seC s) ([])) ∧
                      True))))))))))))))))))))
                    (br (low4R (Row.mk (List.take (List.length l * (1 : Nat)) (List.drop (0 : Nat) (bCells l))) true (Ob.cells true)) == (0 : Int))
                     ((y.1 = (0 : Int)) ∧
                     ((y.2 = (0 : Int)) ∧
                     ((y.3 = false) ∧
                     ((y.4 = false) ∧
                     ((y.5 = false) ∧
                     ((List.length o = (0 : Nat)) ∧
                     ((y.6 = (0 : Int)) ∧
                     ((y.7 = (0 : Int)) ∧
                     ((y.8 = (0 : Int)) ∧
                     ((y.9 = (0 : Int)) ∧
                     ((List.length s = (0 : Nat)) ∧
                     ((sc = (1 : Int)) ∧
                     ((cd = (1 : Int)) ∧
                     ((sn = st) ∧
                     ((Eq (α := List Value) (bCells l) (bCells l)) ∧
                     ((Plain (bCells l)) ∧
                     ((Eq (α := List Value) (bCells o) ([])) ∧
                     ((Eq (α := List Value) (gC seC s) ([])) ∧
                     True))))))))))))))))))
                     ((y.1 = ty) ∧
                     ((y.2 = st) ∧
                     ((y.3 = false) ∧
                     ((y.4 = false) ∧
                     ((y.5 = false) ∧
                     ((List.length o = (0 : Nat)) ∧
                     ((y.6 = (0 : Int)) ∧
                     ((y.7 = (0 : Int)) ∧
                     ((y.8 = low4R (Row.mk (List.take (List.length l * (1 : Nat)) (List.drop (0 : Nat) (bCells l))) true (Ob.cells true))) ∧
                     ((y.9 = (0 : Int)) ∧
                     ((List.length s = (0 : Nat)) ∧
                     ((sc = (0 : Int)) ∧
                     ((cd = (0 : Int)) ∧
                     ((sn = (0 : Int)) ∧
                     ((Eq (α := List Value) (bCells l) (bCells l)) ∧
                     ((Plain (bCells l)) ∧
                     ((Eq (α := List Value) (bCells o) ([])) ∧
                     ((Eq (α := List Value) (gC seC s) ([])) ∧
                     True))))))))))))))))))))))
                  (br (ty == (9 : Int))
                   (br (decide ((0 : Nat) + List.length l * (1 : Nat) ≤ List.length (bCells l)))
                    (br (allOne (List.take (List.length l * (1 : Nat)) (List.drop (0 : Nat) (bCells l))))
                     (br (decide ((0 : Nat) + List.length l ≤ (16777216 : Nat)))
                      ((Value.int IntKind.i64 fl = Value.int IntKind.i64 fl) ∧
                      ((Value.int IntKind.i64 fl = Value.int IntKind.i64 fl) ∧
                      ((y.1 = ty) ∧
                      ((y.2 = st) ∧
                      ((y.3 = false) ∧
                      ((y.4 = (iand IntKind.i64 fl (4 : Int) != (0 : Int))) ∧
                      ((y.5 = false) ∧
                      (((0 : Nat) = (0 : Nat)) ∧
                      ((List.length o = (0 : Nat) + List.length l) ∧
                      ((y.6 = (0 : Int)) ∧
                      ((y.7 = (0 : Int)) ∧
                      ((y.8 = (0 : Int)) ∧
                      ((y.9 = (0 : Int)) ∧
                      ((List.length s = (0 : Nat)) ∧
                      ((sc = (0 : Int)) ∧
                      ((cd = (0 : Int)) ∧
                      ((sn = (0 : Int)) ∧
                      ((Eq (α := List Value) (bCells l) (bCells l)) ∧
                      ((Plain (bCells l)) ∧
                      ((Eq (α := List Value) (bCells o) ([] ++ List.take (List.length l * (1 : Nat)) (List.drop (0 : Nat) (bCells l)))) ∧
                      ((Plain (bCells o)) ∧
                      ((Eq (α := List Value) (gC seC s) ([])) ∧
                      True))))))))))))))))))))))
                      False)
                     False)
                    False)
                   ((y.1 = ty) ∧
                   ((y.2 = st) ∧
                   ((y.3 = false) ∧
                   ((y.4 = false) ∧
                   ((y.5 = false) ∧
                   ((List.length o = (0 : Nat)) ∧
                   ((y.6 = (0 : Int)) ∧
                   ((y.7 = (0 : Int)) ∧
                   ((y.8 = (0 : Int)) ∧
                   ((y.9 = (0 : Int)) ∧
                   ((List.length s = (0 : Nat)) ∧
                   ((sc = (0 : Int)) ∧
                   ((cd = (0 : Int)) ∧
                   ((sn = (0 : Int)) ∧
                   ((Eq (α := List Value) (bCells l) (bCells l)) ∧
                   ((Plain (bCells l)) ∧
                   ((Eq (α := List Value) (bCells o) ([])) ∧
                   ((Eq (α := List Value) (gC seC s) ([])) ∧
                   True))))))))))))))))))))))))))))))
       (br (!ty == (7 : Int))
        (br (ty != (8 : Int))
         (br (st == (0 : Int))
          ((y.1 = (0 : Int)) ∧
          ((y.2 = (0 : Int)) ∧
          ((y.3 = false) ∧
          ((y.4 = false) ∧
          ((y.5 = false) ∧
          ((List.length o = (0 : Nat)) ∧
          ((y.6 = (0 : Int)) ∧
          ((y.7 = (0 : Int)) ∧
          ((y.8 = (0 : Int)) ∧
          ((y.9 = (0 : Int)) ∧
          ((List.length s = (0 : Nat)) ∧
          ((sc = (2 : Int)) ∧
          ((cd = (1 : Int)) ∧
          ((sn = (0 : Int)) ∧
          ((Eq (α := List Value) (bCells l) (bCells l)) ∧
          ((Plain (bCells l)) ∧
          ((Eq (α := List Value) (bCells o) ([])) ∧
          ((Eq (α := List Value) (gC seC s) ([])) ∧
          True))))))))))))))))))
          (br (ty == (5 : Int))
           ((y.1 = (0 : Int)) ∧
           ((y.2 = (0 : Int)) ∧
           ((y.3 = false) ∧
           ((y.4 = false) ∧
           ((y.5 = false) ∧
           ((List.length o = (0 : Nat)) ∧
           ((y.6 = (0 : Int)) ∧
           ((y.7 = (0 : Int)) ∧
           ((y.8 = (0 : Int)) ∧
           ((y.9 = (0 : Int)) ∧
           ((List.length s = (0 : Nat)) ∧
           ((sc = (2 : Int)) ∧
           ((cd = (1 : Int)) ∧
           ((sn = (0 : Int)) ∧
           ((Eq (α := List Value) (bCells l) (bCells l)) ∧
           ((Plain (bCells l)) ∧
           ((Eq (α := List Value) (bCells o) ([])) ∧
           ((Eq (α := List Value) (gC seC s) ([])) ∧
           True))))))))))))))))))
           (br (ty == (0 : Int))
            (((((True ∧ (True ∧ (True ∧ (((0 : Nat) + List.length l * (1 : Nat) ≤ List.length (bCells l) ∧ Plain (List.take (List.length l * (1 : Nat)) (List.drop (0 : Nat) (bCells l)))) ∧ True)))) ∧ ((True ∧ (True ∧ (True ∧ (True ∧ (True ∧ (True ∧ (True ∧ (True ∧ (True ∧ (True ∧ (True ∧ True))))))))))) ∧ True)) ∧ ((True ∧ True) ∧ ((Plain (lBc ty fl st (Row.mk (List.take (List.length l * (1 : Nat)) (List.drop (0 : Nat) (bCells l))) true (Ob.cells true))) ∧ True) ∧ (IsB (Row.mk (List.take (List.length l * (1 : Nat)) (List.drop (0 : Nat) (bCells l))) true (Ob.cells true)) (List.length l) ∧ (List.length l ≤ (16777216 : Nat) ∧ Ty01 ty)))))) ∧
            ((y.1 = lI ty ty fl st (Row.mk (List.take (List.length l * (1 : Nat)) (List.drop (0 : Nat) (bCells l))) true (Ob.cells true))) ∧
            ((y.2 = lI st ty fl st (Row.mk (List.take (List.length l * (1 : Nat)) (List.drop (0 : Nat) (bCells l))) true (Ob.cells true))) ∧
            ((y.3 = lE ty fl st (Row.mk (List.take (List.length l * (1 : Nat)) (List.drop (0 : Nat) (bCells l))) true (Ob.cells true))) ∧
            ((y.4 = lF false ty fl st (Row.mk (List.take (List.length l * (1 : Nat)) (List.drop (0 : Nat) (bCells l))) true (Ob.cells true))) ∧
            ((y.5 = lZ false ty fl st (Row.mk (List.take (List.length l * (1 : Nat)) (List.drop (0 : Nat) (bCells l))) true (Ob.cells true))) ∧
            (((0 : Nat) = (0 : Nat)) ∧
            ((List.length o = lBn ty fl st (Row.mk (List.take (List.length l * (1 : Nat)) (List.drop (0 : Nat) (bCells l))) true (Ob.cells true))) ∧
            ((y.6 = lI (0 : Int) ty fl st (Row.mk (List.take (List.length l * (1 : Nat)) (List.drop (0 : Nat) (bCells l))) true (Ob.cells true))) ∧
            ((y.7 = lI (0 : Int) ty fl st (Row.mk (List.take (List.length l * (1 : Nat)) (List.drop (0 : Nat) (bCells l))) true (Ob.cells true))) ∧
            ((y.8 = lI (0 : Int) ty fl st (Row.mk (List.take (List.length l * (1 : Nat)) (List.drop (0 : Nat) (bCells l))) true (Ob.cells true))) ∧
            ((y.9 = lCs (0 : Int) ty fl st (Row.mk (List.take (List.length l * (1 : Nat)) (List.drop (0 : Nat) (bCells l))) true (Ob.cells true))) ∧
            ((List.length s = (0 : Nat)) ∧
            ((sc = lScR ty fl st (Row.mk (List.take (List.length l * (1 : Nat)) (List.drop (0 : Nat) (bCells l))) true (Ob.cells true))) ∧
            ((cd = lCdR ty fl st (Row.mk (List.take (List.length l * (1 : Nat)) (List.drop (0 : Nat) (bCells l))) true (Ob.cells true))) ∧
            ((sn = lSnR ty fl st (Row.mk (List.take (List.length l * (1 : Nat)) (List.drop (0 : Nat) (bCells l))) true (Ob.cells true))) ∧
            ((Eq (α := List Value) (bCells l) (bCells l)) ∧
            ((Plain (bCells l)) ∧
            ((Eq (α := List Value) (bCells o) (lBc ty fl st (Row.mk (List.take (List.length l * (1 : Nat)) (List.drop (0 : Nat) (bCells l))) true (Ob.cells true)))) ∧
            ((Plain (bCells o)) ∧
            ((Eq (α := List Value) (gC seC s) ([])) ∧
            True)))))))))))))))))))))
            (br (ty == (1 : Int))
             (((((True ∧ (True ∧ (True ∧ (((0 : Nat) + List.length l * (1 : Nat) ≤ List.length (bCells l) ∧ Plain (List.take (List.length l * (1 : Nat)) (List.drop (0 : Nat) (bCells l)))) ∧ True)))) ∧ ((True ∧ (True ∧ (True ∧ (True ∧ (True ∧ (True ∧ (True ∧ (True ∧ (True ∧ (True ∧ (True ∧ True))))))))))) ∧ True)) ∧ ((True ∧ True) ∧ ((Plain (lBc ty fl st (Row.mk (List.take (List.length l * (1 : Nat)) (List.drop (0 : Nat) (bCells l))) true (Ob.cells true))) ∧ True) ∧ (IsB (Row.mk (List.take (List.length l * (1 : Nat)) (List.drop (0 : Nat) (bCells l))) true (Ob.cells true)) (List.length l) ∧ (List.length l ≤ (16777216 : Nat) ∧ Ty01 ty)))))) ∧
             ((y.1 = lI ty ty fl st (Row.mk (List.take (List.length l * (1 : Nat)) (List.drop (0 : Nat) (bCells l))) true (Ob.cells true))) ∧
             ((y.2 = lI st ty fl st (Row.mk (List.take (List.length l * (1 : Nat)) (List.drop (0 : Nat) (bCells l))) true (Ob.cells true))) ∧
             ((y.3 = lE ty fl st (Row.mk (List.take (List.length l * (1 : Nat)) (List.drop (0 : Nat) (bCells l))) true (Ob.cells true))) ∧
             ((y.4 = lF false ty fl st (Row.mk (List.take (List.length l * (1 : Nat)) (List.drop (0 : Nat) (bCells l))) true (Ob.cells true))) ∧
             ((y.5 = lZ false ty fl st (Row.mk (List.take (List.length l * (1 : Nat)) (List.drop (0 : Nat) (bCells l))) true (Ob.cells true))) ∧
             (((0 : Nat) = (0 : Nat)) ∧
             ((List.length o = lBn ty fl st (Row.mk (List.take (List.length l * (1 : Nat)) (List.drop (0 : Nat) (bCells l))) true (Ob.cells true))) ∧
             ((y.6 = lI (0 : Int) ty fl st (Row.mk (List.take (List.length l * (1 : Nat)) (List.drop (0 : Nat) (bCells l))) true (Ob.cells true))) ∧
             ((y.7 = lI (0 : Int) ty fl st (Row.mk (List.take (List.length l * (1 : Nat)) (List.drop (0 : Nat) (bCells l))) true (Ob.cells true))) ∧
             ((y.8 = lI (0 : Int) ty fl st (Row.mk (List.take (List.length l * (1 : Nat)) (List.drop (0 : Nat) (bCells l))) true (Ob.cells true))) ∧
             ((y.9 = lCs (0 : Int) ty fl st (Row.mk (List.take (List.length l * (1 : Nat)) (List.drop (0 : Nat) (bCells l))) true (Ob.cells true))) ∧
             ((List.length s = (0 : Nat)) ∧
             ((sc = lScR ty fl st (Row.mk (List.take (List.length l * (1 : Nat)) (List.drop (0 : Nat) (bCells l))) true (Ob.cells true))) ∧
             ((cd = lCdR ty fl st (Row.mk (List.take (List.length l * (1 : Nat)) (List.drop (0 : Nat) (bCells l))) true (Ob.cells true))) ∧
             ((sn = lSnR ty fl st (Row.mk (List.take (List.length l * (1 : Nat)) (List.drop (0 : Nat) (bCells l))) true (Ob.cells true))) ∧
             ((Eq (α := List Value) (bCells l) (bCells l)) ∧
             ((Plain (bCells l)) ∧
             ((Eq (α := List Value) (bCells o) (lBc ty fl st (Row.mk (List.take (List.length l * (1 : Nat)) (List.drop (0 : Nat) (bCells l))) true (Ob.cells true)))) ∧
             ((Plain (bCells o)) ∧
             ((Eq (α := List Value) (gC seC s) ([])) ∧
             True)))))))))))))))))))))
             (br (ty == (2 : Int))
              (br (Int.ofNat (List.length l) != (5 : Int))
               ((y.1 = (0 : Int)) ∧
               ((y.2 = (0 : Int)) ∧
               ((y.3 = false) ∧
               ((y.4 = false) ∧
               ((y.5 = false) ∧
               ((List.length o = (0 : Nat)) ∧
               ((y.6 = (0 : Int)) ∧
               ((y.7 = (0 : Int)) ∧
               ((y.8 = (0 : Int)) ∧
               ((y.9 = (0 : Int)) ∧
               ((List.length s = (0 : Nat)) ∧
               ((sc = (1 : Int)) ∧
               ((cd = (6 : Int)) ∧
               ((sn = st) ∧
               ((Eq (α := List Value) (bCells l) (bCells l)) ∧
               ((Plain (bCells l)) ∧
               ((Eq (α := List Value) (bCells o) ([])) ∧
               ((Eq (α := List Value) (gC seC s) ([])) ∧
               True))))))))))))))))))
               ((((((0 : Nat) + List.length l * (1 : Nat) ≤ List.length (bCells l) ∧ Plain (List.take (List.length l * (1 : Nat)) (List.drop (0 : Nat) (bCells l)))) ∧ True) ∧ ((True ∧ True) ∧ (True ∧ (IsB (Row.mk (List.take (List.length l * (1 : Nat)) (List.drop (0 : Nat) (bCells l))) true (Ob.cells true)) (List.length l) ∧ ((4 : Nat) ≤ List.length l ∧ List.length l ≤ (9223372036854775807 : Nat))))))) ∧
               ((Value.int IntKind.i64 st = Value.int IntKind.i64 st) ∧
               ((Value.int IntKind.i64 st = Value.int IntKind.i64 st) ∧
               (br (low4R (Row.mk (List.take (List.length l * (1 : Nat)) (List.drop (0 : Nat) (bCells l))) true (Ob.cells true)) == st)
                ((y.1 = (0 : Int)) ∧
                ((y.2 = (0 : Int)) ∧
                ((y.3 = false) ∧
                ((y.4 = false) ∧
                ((y.5 = false) ∧
                ((List.length o = (0 : Nat)) ∧
                ((y.6 = (0 : Int)) ∧
                ((y.7 = (0 : Int)) ∧
                ((y.8 = (0 : Int)) ∧
                ((y.9 = (0 : Int)) ∧
                ((List.length s = (0 : Nat)) ∧
                ((sc = (1 : Int)) ∧
                ((cd = (1 : Int)) ∧
                ((sn = st) ∧
                ((Eq (α := List Value) (bCells l) (bCells l)) ∧
                ((Plain (bCells l)) ∧
                ((Eq (α := List Value) (bCells o) ([])) ∧
                ((Eq (α := List Value) (gC seC s) ([])) ∧
                True))))))))))))))))))
                ((y.1 = ty) ∧
                ((y.2 = st) ∧
                ((y.3 = false) ∧
                ((y.4 = false) ∧
                ((y.5 = false) ∧
                ((List.length o = (0 : Nat)) ∧
                ((y.6 = (0 : Int)) ∧
                ((y.7 = (0 : Int)) ∧
                ((y.8 = (0 : Int)) ∧
                ((y.9 = (0 : Int)) ∧
                ((List.length s = (0 : Nat)) ∧
                ((sc = (0 : Int)) ∧
                ((cd = (0 : Int)) ∧
                ((sn = (0 : Int)) ∧
                ((Eq (α := List Value) (bCells l) (bCells l)) ∧
                ((Plain (bCells l)) ∧
                ((Eq (α := List Value) (bCells o) ([])) ∧
                ((Eq (α := List Value) (gC seC s) ([])) ∧
                True)))))))))))))))))))))))
              (br (ty == (3 : Int))
               (br (Int.ofNat (List.length l) != (4 : Int))
                ((y.1 = (0 : Int)) ∧
                ((y.2 = (0 : Int)) ∧
                ((y.3 = false) ∧
                ((y.4 = false) ∧
                ((y.5 = false) ∧
                ((List.length o = (0 : Nat)) ∧
                ((y.6 = (0 : Int)) ∧
                ((y.7 = (0 : Int)) ∧
                ((y.8 = (0 : Int)) ∧
                ((y.9 = (0 : Int)) ∧
                ((List.length s = (0 : Nat)) ∧
                ((sc = (2 : Int)) ∧
                ((cd = (6 : Int)) ∧
                ((sn = (0 : Int)) ∧
                ((Eq (α := List Value) (bCells l) (bCells l)) ∧
                ((Plain (bCells l)) ∧
                ((Eq (α := List Value) (bCells o) ([])) ∧
                ((Eq (α := List Value) (gC seC s) ([])) ∧
                True))))))))))))))))))
                ((((((0 : Nat) + List.length l * (1 : Nat) ≤ List.length (bCells l) ∧ Plain (List.take (List.length l * (1 : Nat)) (List.drop (0 : Nat) (bCells l)))) ∧ True) ∧ ((True ∧ True) ∧ (True ∧ (IsB (Row.mk (List.take (List.length l * (1 : Nat)) (List.drop (0 : Nat) (bCells l))) true (Ob.cells true)) (List.length l) ∧ ((4 : Nat) ≤ List.length l ∧ List.length l ≤ (9223372036854775807 : Nat))))))) ∧
                ((y.1 = ty) ∧
                ((y.2 = st) ∧
                ((y.3 = false) ∧
                ((y.4 = false) ∧
                ((y.5 = false) ∧
                ((List.length o = (0 : Nat)) ∧
                ((y.6 = num4R (Row.mk (List.take (List.length l * (1 : Nat)) (List.drop (0 : Nat) (bCells l))) true (Ob.cells true))) ∧
                ((y.7 = (0 : Int)) ∧
                ((y.8 = (0 : Int)) ∧
                ((y.9 = (0 : Int)) ∧
                ((List.length s = (0 : Nat)) ∧
                ((sc = (0 : Int)) ∧
                ((cd = (0 : Int)) ∧
                ((sn = (0 : Int)) ∧
                ((Eq (α := List Value) (bCells l) (bCells l)) ∧
                ((Plain (bCells l)) ∧
                ((Eq (α := List Value) (bCells o) ([])) ∧
                ((Eq (α := List Value) (gC seC s) ([])) ∧
                True))))))))))))))))))))
               (br (ty == (4 : Int))
                (((((True ∧ (True ∧ (True ∧ (((0 : Nat) + List.length l * (1 : Nat) ≤ List.length (bCells l) ∧ Plain (List.take (List.length l * (1 : Nat)) (List.drop (0 : Nat) (bCells l)))) ∧ True)))) ∧ ((True ∧ (True ∧ (True ∧ (True ∧ (True ∧ (True ∧ (True ∧ (True ∧ (True ∧ (True ∧ (True ∧ True))))))))))) ∧ True)) ∧ ((True ∧ True) ∧ ((Plain (rsC fl (Row.mk (List.take (List.length l * (1 : Nat)) (List.drop (0 : Nat) (bCells l))) true (Ob.cells true))) ∧ True) ∧ (IsB (Row.mk (List.take (List.length l * (1 : Nat)) (List.drop (0 : Nat) (bCells l))) true (Ob.cells true)) (List.length l) ∧ List.length l ≤ (16777216 : Nat)))))) ∧
                ((y.1 = rsI ty fl (Row.mk (List.take (List.length l * (1 : Nat)) (List.drop (0 : Nat) (bCells l))) true (Ob.cells true))) ∧
                ((y.2 = rsI st fl (Row.mk (List.take (List.length l * (1 : Nat)) (List.drop (0 : Nat) (bCells l))) true (Ob.cells true))) ∧
                ((y.3 = rsB false fl (Row.mk (List.take (List.length l * (1 : Nat)) (List.drop (0 : Nat) (bCells l))) true (Ob.cells true))) ∧
                ((y.4 = rsB false fl (Row.mk (List.take (List.length l * (1 : Nat)) (List.drop (0 : Nat) (bCells l))) true (Ob.cells true))) ∧
                ((y.5 = rsB (bit fl (1 : Int)) fl (Row.mk (List.take (List.length l * (1 : Nat)) (List.drop (0 : Nat) (bCells l))) true (Ob.cells true))) ∧
                ((List.length o = (0 : Nat)) ∧
                ((y.6 = rsI (0 : Int) fl (Row.mk (List.take (List.length l * (1 : Nat)) (List.drop (0 : Nat) (bCells l))) true (Ob.cells true))) ∧
                ((y.7 = rsI (0 : Int) fl (Row.mk (List.take (List.length l * (1 : Nat)) (List.drop (0 : Nat) (bCells l))) true (Ob.cells true))) ∧
                ((y.8 = rsI (0 : Int) fl (Row.mk (List.take (List.length l * (1 : Nat)) (List.drop (0 : Nat) (bCells l))) true (Ob.cells true))) ∧
                ((y.9 = rsI (0 : Int) fl (Row.mk (List.take (List.length l * (1 : Nat)) (List.drop (0 : Nat) (bCells l))) true (Ob.cells true))) ∧
                (((0 : Nat) = (0 : Nat)) ∧
                ((List.length s = rsN fl (Row.mk (List.take (List.length l * (1 : Nat)) (List.drop (0 : Nat) (bCells l))) true (Ob.cells true))) ∧
                ((sc = stScR fl (Row.mk (List.take (List.length l * (1 : Nat)) (List.drop (0 : Nat) (bCells l))) true (Ob.cells true))) ∧
                ((cd = stCdR fl (Row.mk (List.take (List.length l * (1 : Nat)) (List.drop (0 : Nat) (bCells l))) true (Ob.cells true))) ∧
                ((sn = (0 : Int)) ∧
                ((Eq (α := List Value) (bCells l) (bCells l)) ∧
                ((Plain (bCells l)) ∧
                ((Eq (α := List Value) (bCells o) ([])) ∧
                ((Eq (α := List Value) (gC seC s) (rsC fl (Row.mk (List.take (List.length l * (1 : Nat)) (List.drop (0 : Nat) (bCells l))) true (Ob.cells true)))) ∧
                ((Plain (gC seC s)) ∧
                True)))))))))))))))))))))
                (br (ty == (6 : Int))
                 (br (Int.ofNat (List.length l) != (8 : Int))
                  ((y.1 = (0 : Int)) ∧
                  ((y.2 = (0 : Int)) ∧
                  ((y.3 = false) ∧
                  ((y.4 = false) ∧
                  ((y.5 = false) ∧
                  ((List.length o = (0 : Nat)) ∧
                  ((y.6 = (0 : Int)) ∧
                  ((y.7 = (0 : Int)) ∧
                  ((y.8 = (0 : Int)) ∧
                  ((y.9 = (0 : Int)) ∧
                  ((List.length s = (0 : Nat)) ∧
                  ((sc = (2 : Int)) ∧
                  ((cd = (6 : Int)) ∧
                  ((sn = (0 : Int)) ∧
                  ((Eq (α := List Value) (bCells l) (bCells l)) ∧
                  ((Plain (bCells l)) ∧
                  ((Eq (α := List Value) (bCells o) ([])) ∧
                  ((Eq (α := List Value) (gC seC s) ([])) ∧
                  True))))))))))))))))))
                  (br (decide ((0 : Nat) + List.length l * (1 : Nat) ≤ List.length (bCells l)))
                   (br (allOne (List.take (List.length l * (1 : Nat)) (List.drop (0 : Nat) (bCells l))))
                    (br (decide ((0 : Nat) + List.length l ≤ (16777216 : Nat)))
                     ((Value.int IntKind.i64 fl = Value.int IntKind.i64 fl) ∧
                     ((Value.int IntKind.i64 fl = Value.int IntKind.i64 fl) ∧
                     ((y.1 = ty) ∧
                     ((y.2 = st) ∧
                     ((y.3 = false) ∧
                     ((y.4 = false) ∧
                     ((y.5 = (iand IntKind.i64 fl (1 : Int) != (0 : Int))) ∧
                     (((0 : Nat) = (0 : Nat)) ∧
                     ((List.length o = (0 : Nat) + List.length l) ∧
                     ((y.6 = (0 : Int)) ∧
                     ((y.7 = (0 : Int)) ∧
                     ((y.8 = (0 : Int)) ∧
                     ((y.9 = (0 : Int)) ∧
                     ((List.length s = (0 : Nat)) ∧
                     ((sc = (0 : Int)) ∧
                     ((cd = (0 : Int)) ∧
                     ((sn = (0 : Int)) ∧
                     ((Eq (α := List Value) (bCells l) (bCells l)) ∧
                     ((Plain (bCells l)) ∧
                     ((Eq (α := List Value) (bCells o) ([] ++ List.take (List.length l * (1 : Nat)) (List.drop (0 : Nat) (bCells l)))) ∧
                     ((Plain (bCells o)) ∧
                     ((Eq (α := List Value) (gC seC s) ([])) ∧
                     True))))))))))))))))))))))
                     False)
                    False)
                   False))
                 (br (ty == (7 : Int))
                  (br (decide (Int.ofNat (List.length l) < (8 : Int)))
                   ((y.1 = (0 : Int)) ∧
                   ((y.2 = (0 : Int)) ∧
                   ((y.3 = false) ∧
                   ((y.4 = false) ∧
                   ((y.5 = false) ∧
                   ((List.length o = (0 : Nat)) ∧
                   ((y.6 = (0 : Int)) ∧
                   ((y.7 = (0 : Int)) ∧
                   ((y.8 = (0 : Int)) ∧
                   ((y.9 = (0 : Int)) ∧
                   ((List.length s = (0 : Nat)) ∧
                   ((sc = (2 : Int)) ∧
                   ((cd = (6 : Int)) ∧
                   ((sn = (0 : Int)) ∧
                   ((Eq (α := List Value) (bCells l) (bCells l)) ∧
                   ((Plain (bCells l)) ∧
                   ((Eq (α := List Value) (bCells o) ([])) ∧
                   ((Eq (α := List Value) (gC seC s) ([])) ∧
                   True))))))))))))))))))
                   ((((((0 : Nat) + List.length l * (1 : Nat) ≤ List.length (bCells l) ∧ Plain (List.take (List.length l * (1 : Nat)) (List.drop (0 : Nat) (bCells l)))) ∧ True) ∧ ((True ∧ True) ∧ (True ∧ (IsB (Row.mk (List.take (List.length l * (1 : Nat)) (List.drop (0 : Nat) (bCells l))) true (Ob.cells true)) (List.length l) ∧ ((4 : Nat) ≤ List.length l ∧ List.length l ≤ (9223372036854775807 : Nat))))))) ∧
                   (br (decide ((0 : Int) ≤ (4 : Int) ∧ (4 : Int) ≤ (↑(List.length l) : Int) ∧ (↑(List.length l) : Int) ≤ (↑(List.length l) : Int)))
                    ((((((4 : Nat) + (Int.toNat (↑(List.length l) : Int) - (4 : Nat)) * (1 : Nat) ≤ List.length (bCells l) ∧ Plain (List.take ((Int.toNat (↑(List.length l) : Int) - (4 : Nat)) * (1 : Nat)) (List.drop (4 : Nat) (bCells l)))) ∧ True) ∧ ((True ∧ True) ∧ (True ∧ (IsB (Row.mk (List.take ((Int.toNat (↑(List.length l) : Int) - (4 : Nat)) * (1 : Nat)) (List.drop (4 : Nat) (bCells l))) true (Ob.cells true)) (Int.toNat (↑(List.length l) : Int) - (4 : Nat)) ∧ ((4 : Nat) ≤ Int.toNat (↑(List.length l) : Int) - (4 : Nat) ∧ Int.toNat (↑(List.length l) : Int) - (4 : Nat) ≤ (9223372036854775807 : Nat))))))) ∧
                    (br (decide ((0 : Int) ≤ (8 : Int) ∧ (8 : Int) ≤ (↑(List.length l) : Int) ∧ (↑(List.length l) : Int) ≤ (↑(List.length l) : Int)))
                     (br (decide ((8 : Nat) + (Int.toNat (↑(List.length l) : Int) - (8 : Nat)) * (1 : Nat) ≤ List.length (bCells l)))
                      (br (allOne (List.take ((Int.toNat (↑(List.length l) : Int) - (8 : Nat)) * (1 : Nat)) (List.drop (8 : Nat) (bCells l))))
                       (br (decide ((0 : Nat) + (Int.toNat (↑(List.length l) : Int) - (8 : Nat)) ≤ (16777216 : Nat)))
                        (br (decide ((0 : Int) ≤ (4 : Int) ∧ (4 : Int) ≤ (↑(List.length l) : Int) ∧ (↑(List.length l) : Int) ≤ (↑(List.length l) : Int)))
                         ((Value.slice (some (Addr.mk (0 : Nat) (4 : Nat) none)) (Int.toNat (↑(List.length l) : Int) - (4 : Nat)) (1 : Nat) = Value.slice (some (Addr.mk (0 : Nat) (4 : Nat) none)) (Int.toNat (↑(List.length l) : Int) - (4 : Nat)) (1 : Nat)) ∧
                         (br (decide ((0 : Int) ≤ (4 : Int) ∧ (4 : Int) ≤ (↑(List.length l) : Int) ∧ (↑(List.length l) : Int) ≤ (↑(List.length l) : Int)))
                          ((Value.slice (some (Addr.mk (0 : Nat) (4 : Nat) none)) (Int.toNat (↑(List.length l) : Int) - (4 : Nat)) (1 : Nat) = Value.slice (some (Addr.mk (0 : Nat) (4 : Nat) none)) (Int.toNat (↑(List.length l) : Int) - (4 : Nat)) (1 : Nat)) ∧
                          (br (decide ((0 : Int) ≤ (8 : Int) ∧ (8 : Int) ≤ (↑(List.length l) : Int) ∧ (↑(List.length l) : Int) ≤ (↑(List.length l) : Int)))
                           ((Value.slice (some (Addr.mk (0 : Nat) (8 : Nat) none)) (Int.toNat (↑(List.length l) : Int) - (8 : Nat)) (1 : Nat) = Value.slice (some (Addr.mk (0 : Nat) (8 : Nat) none)) (Int.toNat (↑(List.length l) : Int) - (8 : Nat)) (1 : Nat)) ∧
                           (br (decide ((0 : Int) ≤ (8 : Int) ∧ (8 : Int) ≤ (↑(List.length l) : Int) ∧ (↑(List.length l) : Int) ≤ (↑(List.length l) : Int)))
                            ((Value.slice (some (Addr.mk (0 : Nat) (8 : Nat) none)) (Int.toNat (↑(List.length l) : Int) - (8 : Nat)) (1 : Nat) = Value.slice (some (Addr.mk (0 : Nat) (8 : Nat) none)) (Int.toNat (↑(List.length l) : Int) - (8 : Nat)) (1 : Nat)) ∧
                            (br (decide ((0 : Int) ≤ (8 : Int) ∧ (8 : Int) ≤ (↑(List.length l) : Int) ∧ (↑(List.length l) : Int) ≤ (↑(List.length l) : Int)))
                             ((Value.slice (some (Addr.mk (0 : Nat) (8 : Nat) none)) (Int.toNat (↑(List.length l) : Int) - (8 : Nat)) (1 : Nat) = Value.slice (some (Addr.mk (0 : Nat) (8 : Nat) none)) (Int.toNat (↑(List.length l) : Int) - (8 : Nat)) (1 : Nat)) ∧
                             ((y.1 = ty) ∧
                             ((y.2 = st) ∧
                             ((y.3 = false) ∧
                             ((y.4 = false) ∧
                             ((y.5 = false) ∧
                             (((0 : Nat) = (0 : Nat)) ∧
                             ((List.length o = (0 : Nat) + (Int.toNat (↑(List.length l) : Int) - (8 : Nat))) ∧
                             ((y.6 = num4R (Row.mk (List.take ((Int.toNat (↑(List.length l) : Int) - (4 : Nat)) * (1 : Nat)) (List.drop (4 : Nat) (bCells l))) true (Ob.cells true))) ∧
                             ((y.7 = low4R (Row.mk (List.take (List.length l * (1 : Nat)) (List.drop (0 : Nat) (bCells l))) true (Ob.cells true))) ∧
                             ((y.8 = (0 : Int)) ∧
                             ((y.9 = (0 : Int)) ∧
                             ((List.length s = (0 : Nat)) ∧
                             ((sc = (0 : Int)) ∧
                             ((cd = (0 : Int)) ∧
                             ((sn = (0 : Int)) ∧
                             ((Eq (α := List Value) (bCells l) (bCells l)) ∧
                             ((Plain (bCells l)) ∧
                             ((Eq (α := List Value) (bCells o) ([] ++ List.take ((Int.toNat (↑(List.length l) : Int) - (8 : Nat)) * (1 : Nat)) (List.drop (8 : Nat) (bCells l)))) ∧
                             ((Plain (bCells o)) ∧
                             ((Eq (α := List Value) (gC seC s) ([])) ∧
                             True)))))))))))))))))))))
                             False))
                            False))
                           False))
                          False))
                         False)
                        False)
                       False)
                      False)
                     False))
                    False)))
                  (br (ty == (8 : Int))
                   (br (Int.ofNat (List.length l) != (4 : Int))
                    ((y.1 = (0 : Int)) ∧
                    ((y.2 = (0 : Int)) ∧
                    ((y.3 = false) ∧
                    ((y.4 = false) ∧
                    ((y.5 = false) ∧
                    ((List.length o = (0 : Nat)) ∧
                    ((y.6 = (0 : Int)) ∧
                    ((y.7 = (0 : Int)) ∧
                    ((y.8 = (0 : Int)) ∧
                    ((y.9 = (0 : Int)) ∧
                    ((List.length s = (0 : Nat)) ∧
                    ((sc = (2 : Int)) ∧
                    ((cd = (6 : Int)) ∧
                    ((sn = (0 : Int)) ∧
                    ((Eq (α := List Value) (bCells l) (bCells l)) ∧
                    ((Plain (bCells l)) ∧
                    ((Eq (α := List Value) (bCells o) ([])) ∧
                    ((Eq (α := List Value) (gC seC s) ([])) ∧
                    True))))))))))))))))))
                    ((((((0 : Nat) + List.length l * (1 : Nat) ≤ List.length (bCells l) ∧ Plain (List.take (List.length l * (1 : Nat)) (List.drop (0 : Nat) (bCells l)))) ∧ True) ∧ ((True ∧ True) ∧ (True ∧ (IsB (Row.mk (List.take (List.length l * (1 : Nat)) (List.drop (0 : Nat) (bCells l))) true (Ob.cells true)) (List.length l) ∧ ((4 : Nat) ≤ List.length l ∧ List.length l ≤ (9223372036854775807 : Nat))))))) ∧
                    (br (low4R (Row.mk (List.take (List.length l * (1 : Nat)) (List.drop (0 : Nat) (bCells l))) true (Ob.cells true)) == (0 : Int))
                     (br (st == (0 : Int))
                      ((y.1 = (0 : Int)) ∧
                      ((y.2 = (0 : Int)) ∧
                      ((y.3 = false) ∧
                      ((y.4 = false) ∧
                      ((y.5 = false) ∧
                      ((List.length o = (0 : Nat)) ∧
                      ((y.6 = (0 : Int)) ∧
                      ((y.7 = (0 : Int)) ∧
                      ((y.8 = (0 : Int)) ∧
                      ((y.9 = (0 : Int)) ∧
                      ((List.length s = (0 : Nat)) ∧
                      ((sc = (2 : Int)) ∧
                      ((cd = (1 : Int)) ∧
                      ((sn = (0 : Int)) ∧
                      ((Eq (α := List Value) (bCells l) (bCells l)) ∧
                      ((Plain (bCells l)) ∧
                      ((Eq (α := List Value) (bCells o) ([])) ∧
                      ((Eq (α := List Value) (gC seC s) ([])) ∧
                      True))))))))))))))))))
                      (br (low4R (Row.mk (List.take (List.length l * (1 : Nat)) (List.drop (0 : Nat) (bCells l))) true (Ob.cells true)) == (0 : Int))
                       ((y.1 = (0 : Int)) ∧
                       ((y.2 = (0 : Int)) ∧
                       ((y.3 = false) ∧
                       ((y.4 = false) ∧
                       ((y.5 = false) ∧
                       ((List.length o = (0 : Nat)) ∧
                       ((y.6 = (0 : Int)) ∧
                       ((y.7 = (0 : Int)) ∧
                       ((y.8 = (0 : Int)) ∧
                       ((y.9 = (0 : Int)) ∧
                       ((List.length s = (0 : Nat)) ∧
                       ((sc = (1 : Int)) ∧
                       ((cd = (1 : Int)) ∧
                       ((sn = st) ∧
                       ((Eq (α := List Value) (bCells l) (bCells l)) ∧
                       ((Plain (bCells l)) ∧
                       ((Eq (α := List Value) (bCells o) ([])) ∧
                       ((Eq (α := List Value) (gC seC s) ([])) ∧
                       True))))))))))))))))))
                       ((y.1 = ty) ∧
                       ((y.2 = st) ∧
                       ((y.3 = false) ∧
                       ((y.4 = false) ∧
                       ((y.5 = false) ∧
                       ((List.length o = (0 : Nat)) ∧
                       ((y.6 = (0 : Int)) ∧
                       ((y.7 = (0 : Int)) ∧
                       ((y.8 = low4R (Row.mk (List.take (List.length l * (1 : Nat)) (List.drop (0 : Nat) (bCells l))) true (Ob.cells true))) ∧
                       ((y.9 = (0 : Int)) ∧
                       ((List.length s = (0 : Nat)) ∧
                       ((sc = (0 : Int)) ∧
                       ((cd = (0 : Int)) ∧
                       ((sn = (0 : Int)) ∧
                       ((Eq (α := List Value) (bCells l) (bCells l)) ∧
                       ((Plain (bCells l)) ∧
                       ((Eq (α := List Value) (bCells o) ([])) ∧
                       ((Eq (α := List Value) (gC seC s) ([])) ∧
                       True))))))))))))))))))))
                     (br (low4R (Row.mk (List.take (List.length l * (1 : Nat)) (List.drop (0 : Nat) (bCells l))) true (Ob.cells true)) == (0 : Int))
                      ((y.1 = (0 : Int)) ∧
                      ((y.2 = (0 : Int)) ∧
                      ((y.3 = false) ∧
                      ((y.4 = false) ∧
                      ((y.5 = false) ∧
                      ((List.length o = (0 : Nat)) ∧
                      ((y.6 = (0 : Int)) ∧
                      ((y.7 = (0 : Int)) ∧
                      ((y.8 = (0 : Int)) ∧
                      ((y.9 = (0 : Int)) ∧
                      ((List.length s = (0 : Nat)) ∧
                      ((sc = (1 : Int)) ∧
                      ((cd = (1 : Int)) ∧
                      ((sn = st) ∧
                      ((Eq (α := List Value) (bCells l) (bCells l)) ∧
                      ((Plain (bCells l)) ∧
                      ((Eq (α := List Value) (bCells o) ([])) ∧
                      ((Eq (α := List Value) (gC seC s) ([])) ∧
                      True))))))))))))))))))
                      ((y.1 = ty) ∧
                      ((y.2 = st) ∧
                      ((y.3 = false) ∧
                      ((y.4 = false) ∧
                      ((y.5 = false) ∧
                      ((List.length o = (0 : Nat)) ∧
                      ((y.6 = (0 : Int)) ∧
                      ((y.7 = (0 : Int)) ∧
                      ((y.8 = low4R (Row.mk (List.take (List.length l * (1 : Nat)) (List.drop (0 : Nat) (bCells l))) true (Ob.cells true))) ∧
                      ((y.9 = (0 : Int)) ∧
                      ((List.length s = (0 : Nat)) ∧
                      ((sc = (0 : Int)) ∧
                      ((cd = (0 : Int)) ∧
                      ((sn = (0 : Int)) ∧
                      ((Eq (α := List Value) (bCells l) (bCells l)) ∧
                      ((Plain (bCells l)) ∧
                      ((Eq (α := List Value) (bCells o) ([])) ∧
                      ((Eq (α := List Value) (gC seC s) ([])) ∧
                      True))))))))))))))))))))))
                   (br (ty == (9 : Int))
                    (br (decide ((0 : Nat) + List.length l * (1 : Nat) ≤ List.length (bCells l)))
                     (br (allOne (List.take (List.length l * (1 : Nat)) (List.drop (0 : Nat) (bCells l))))
                      (br (decide ((0 : Nat) + List.length l ≤ (16777216 : Nat)))
                       ((Value.int IntKind.i64 fl = Value.int IntKind.i64 fl) ∧
                       ((Value.int IntKind.i64 fl = Value.int IntKind.i64 fl) ∧
                       ((y.1 = ty) ∧
                       ((y.2 = st) ∧
                       ((y.3 = false) ∧
                       ((y.4 = (iand IntKind.i64 fl (4 : Int) != (0 : Int))) ∧
                       ((y.5 = false) ∧
                       (((0 : Nat) = (0 : Nat)) ∧
                       ((List.length o = (0 : Nat) + List.length l) ∧
                       ((y.6 = (0 : Int)) ∧
                       ((y.7 = (0 : Int)) ∧
                       ((y.8 = (0 : Int)) ∧
                       ((y.9 = (0 : Int)) ∧
                       ((List.length s = (0 : Nat)) ∧
                       ((sc = (0 : Int)) ∧
                       ((cd = (0 : Int)) ∧
                       ((sn = (0 : Int)) ∧
                       ((Eq (α := List Value) (bCells l) (bCells l)) ∧
                       ((Plain (bCells l)) ∧
                       ((Eq (α := List Value) (bCells o) ([] ++ List.take (List.length l * (1 : Nat)) (List.drop (0 : Nat) (bCells l)))) ∧
                       ((Plain (bCells o)) ∧
                       ((Eq (α := List Value) (gC seC s) ([])) ∧
                       True))))))))))))))))))))))
                       False)
                      False)
                     False)
                    ((y.1 = ty) ∧
                    ((y.2 = st) ∧
                    ((y.3 = false) ∧
                    ((y.4 = false) ∧
                    ((y.5 = false) ∧
                    ((List.length o = (0 : Nat)) ∧
                    ((y.6 = (0 : Int)) ∧
                    ((y.7 = (0 : Int)) ∧
                    ((y.8 = (0 : Int)) ∧
                    ((y.9 = (0 : Int)) ∧
                    ((List.length s = (0 : Nat)) ∧
                    ((sc = (0 : Int)) ∧
                    ((cd = (0 : Int)) ∧
                    ((sn = (0 : Int)) ∧
                    ((Eq (α := List Value) (bCells l) (bCells l)) ∧
                    ((Plain (bCells l)) ∧
                    ((Eq (α := List Value) (bCells o) ([])) ∧
                    ((Eq (α := List Value) (gC seC s) ([])) ∧
                    True)))))))))))))))))))))))))))))
         (br (ty == (5 : Int))
          ((y.1 = (0 : Int)) ∧
          ((y.2 = (0 : Int)) ∧
          ((y.3 = false) ∧
          ((y.4 = false) ∧
          ((y.5 = false) ∧
          ((List.length o = (0 : Nat)) ∧
          ((y.6 = (0 : Int)) ∧
          ((y.7 = (0 : Int)) ∧
          ((y.8 = (0 : Int)) ∧
          ((y.9 = (0 : Int)) ∧
          ((List.length s = (0 : Nat)) ∧
          ((sc = (2 : Int)) ∧
          ((cd = (1 : Int)) ∧
          ((sn = (0 : Int)) ∧
          ((Eq (α := List Value) (bCells l) (bCells l)) ∧
          ((Plain (bCells l)) ∧
          ((Eq (α := List Value) (bCells o) ([])) ∧
          ((Eq (α := List Value) (gC seC s) ([])) ∧
          True))))))))))))))))))
          (br (ty == (0 : Int))
           (((((True ∧ (True ∧ (True ∧ (((0 : Nat) + List.length l * (1 : Nat) ≤ List.length (bCells l) ∧ Plain (List.take (List.length l * (1 : Nat)) (List.drop (0 : Nat) (bCells l)))) ∧ True)))) ∧ ((True ∧ (True ∧ (True ∧ (True ∧ (True ∧ (True ∧ (True ∧ (True ∧ (True ∧ (True ∧ (True ∧ True))))))))))) ∧ True)) ∧ ((True ∧ True) ∧ ((Plain (lBc ty fl st (Row.mk (List.take (List.length l * (1 : Nat)) (List.drop (0 : Nat) (bCells l))) true (Ob.cells true))) ∧ True) ∧ (IsB (Row.mk (List.take (List.length l * (1 : Nat)) (List.drop (0 : Nat) (bCells l))) true (Ob.cells true)) (List.length l) ∧ (List.length l ≤ (16777216 : Nat) ∧ Ty01 ty)))))) ∧
           ((y.1 = lI ty ty fl st (Row.mk (List.take (List.length l * (1 : Nat)) (List.drop (0 : Nat) (bCells l))) true (Ob.cells true))) ∧
           ((y.2 = lI st ty fl st (Row.mk (List.take (List.length l * (1 : Nat)) (List.drop (0 : Nat) (bCells l))) true (Ob.cells true))) ∧
           ((y.3 = lE ty fl st (Row.mk (List.take (List.length l * (1 : Nat)) (List.drop (0 : Nat) (bCells l))) true (Ob.cells true))) ∧
           ((y.4 = lF false ty fl st (Row.mk (List.take (List.length l * (1 : Nat)) (List.drop (0 : Nat) (bCells l))) true (Ob.cells true))) ∧
           ((y.5 = lZ false ty fl st (Row.mk (List.take (List.length l * (1 : Nat)) (List.drop (0 : Nat) (bCells l))) true (Ob.cells true))) ∧
           (((0 : Nat) = (0 : Nat)) ∧
           ((List.length o = lBn ty fl st (Row.mk (List.take (List.length l * (1 : Nat)) (List.drop (0 : Nat) (bCells l))) true (Ob.cells true))) ∧
           ((y.6 = lI (0 : Int) ty fl st (Row.mk (List.take (List.length l * (1 : Nat)) (List.drop (0 : Nat) (bCells l))) true (Ob.cells true))) ∧
           ((y.7 = lI (0 : Int) ty fl st (Row.mk (List.take (List.length l * (1 : Nat)) (List.drop (0 : Nat) (bCells l))) true (Ob.cells true))) ∧
           ((y.8 = lI (0 : Int) ty fl st (Row.mk (List.take (List.length l * (1 : Nat)) (List.drop (0 : Nat) (bCells l))) true (Ob.cells true))) ∧
           ((y.9 = lCs (0 : Int) ty fl st (Row.mk (List.take (List.length l * (1 : Nat)) (List.drop (0 : Nat) (bCells l))) true (Ob.cells true))) ∧
           ((List.length s = (0 : Nat)) ∧
           ((sc = lScR ty fl st (Row.mk (List.take (List.length l * (1 : Nat)) (List.drop (0 : Nat) (bCells l))) true (Ob.cells true))) ∧
           ((cd = lCdR ty fl st (Row.mk (List.take (List.length l * (1 : Nat)) (List.drop (0 : Nat) (bCells l))) true (Ob.cells true))) ∧
           ((sn = lSnR ty fl st (Row.mk (List.take (List.length l * (1 : Nat)) (List.drop (0 : Nat) (bCells l))) true (Ob.cells true))) ∧
           ((Eq (α := List Value) (bCells l) (bCells l)) ∧
           ((Plain (bCells l)) ∧
           ((Eq (α := List Value) (bCells o) (lBc ty fl st (Row.mk (List.take (List.length l * (1 : Nat)) (List.drop (0 : Nat) (bCells l))) true (Ob.cells true)))) ∧
           ((Plain (bCells o)) ∧
           ((Eq (α := List Value) (gC seC s) ([])) ∧
           True)))))))))))))))))))))
           (br (ty == (1 : Int))
            (((((True ∧ (True ∧ (True ∧ (((0 : Nat) + List.length l * (1 : Nat) ≤ List.length (bCells l) ∧ Plain (List.take (List.length l * (1 : Nat)) (List.drop (0 : Nat) (bCells l)))) ∧ True)))) ∧ ((True ∧ (True ∧ (True ∧ (True ∧ (True ∧ (True ∧ (True ∧ (True ∧ (True ∧ (True ∧ (True ∧ True))))))))))) ∧ True)) ∧ ((True ∧ True) ∧ ((Plain (lBc ty fl st (Row.mk (List.take (List.length l * (1 : Nat)) (List.drop (0 : Nat) (bCells l))) true (Ob.cells true))) ∧ True) ∧ (IsB (Row.mk (List.take (List.length l * (1 : Nat)) (List.drop (0 : Nat) (bCells l))) true (Ob.cells true)) (List.length l) ∧ (List.length l ≤ (16777216 : Nat) ∧ Ty01 ty)))))) ∧
            ((y.1 = lI ty ty fl st (Row.mk (List.take (List.length l * (1 : Nat)) (List.drop (0 : Nat) (bCells l))) true (Ob.cells true))) ∧
            ((y.2 = lI st ty fl st (Row.mk (List.take (List.length l * (1 : Nat)) (List.drop (0 : Nat) (bCells l))) true (Ob.cells true))) ∧
            ((y.3 = lE ty fl st (Row.mk (List.take (List.length l * (1 : Nat)) (List.drop (0 : Nat) (bCells l))) true (Ob.cells true))) ∧
            ((y.4 = lF false ty fl st (Row.mk (List.take (List.length l * (1 : Nat)) (List.drop (0 : Nat) (bCells l))) true (Ob.cells true))) ∧
            ((y.5 = lZ false ty fl st (Row.mk (List.take (List.length l * (1 : Nat)) (List.drop (0 : Nat) (bCells l))) true (Ob.cells true))) ∧
            (((0 : Nat) = (0 : Nat)) ∧
            ((List.length o = lBn ty fl st (Row.mk (List.take (List.length l * (1 : Nat)) (List.drop (0 : Nat) (bCells l))) true (Ob.cells true))) ∧
            ((y.6 = lI (0 : Int) ty fl st (Row.mk (List.take (List.length l * (1 : Nat)) (List.drop (0 : Nat) (bCells l))) true (Ob.cells true))) ∧
            ((y.7 = lI (0 : Int) ty fl st (Row.mk (List.take (List.length l * (1 : Nat)) (List.drop (0 : Nat) (bCells l))) true (Ob.cells true))) ∧
            ((y.8 = lI (0 : Int) ty fl st (Row.mk (List.take (List.length l * (1 : Nat)) (List.drop (0 : Nat) (bCells l))) true (Ob.cells true))) ∧
            ((y.9 = lCs (0 : Int) ty fl st (Row.mk (List.take (List.length l * (1 : Nat)) (List.drop (0 : Nat) (bCells l))) true (Ob.cells true))) ∧
            ((List.length s = (0 : Nat)) ∧
            ((sc = lScR ty fl st (Row.mk (List.take (List.length l * (1 : Nat)) (List.drop (0 : Nat) (bCells l))) true (Ob.cells true))) ∧
            ((cd = lCdR ty fl st (Row.mk (List.take (List.length l * (1 : Nat)) (List.drop (0 : Nat) (bCells l))) true (Ob.cells true))) ∧
            ((sn = lSnR ty fl st (Row.mk (List.take (List.length l * (1 : Nat)) (List.drop (0 : Nat) (bCells l))) true (Ob.cells true))) ∧
            ((Eq (α := List Value) (bCells l) (bCells l)) ∧
            ((Plain (bCells l)) ∧
            ((Eq (α := List Value) (bCells o) (lBc ty fl st (Row.mk (List.take (List.length l * (1 : Nat)) (List.drop (0 : Nat) (bCells l))) true (Ob.cells true)))) ∧
            ((Plain (bCells o)) ∧
            ((Eq (α := List Value) (gC seC s) ([])) ∧
            True)))))))))))))))))))))
            (br (ty == (2 : Int))
             (br (Int.ofNat (List.length l) != (5 : Int))
              ((y.1 = (0 : Int)) ∧
              ((y.2 = (0 : Int)) ∧
              ((y.3 = false) ∧
              ((y.4 = false) ∧
              ((y.5 = false) ∧
              ((List.length o = (0 : Nat)) ∧
              ((y.6 = (0 : Int)) ∧
              ((y.7 = (0 : Int)) ∧
              ((y.8 = (0 : Int)) ∧
              ((y.9 = (0 : Int)) ∧
              ((List.length s = (0 : Nat)) ∧
              ((sc = (1 : Int)) ∧
              ((cd = (6 : Int)) ∧
              ((sn = st) ∧
              ((Eq (α := List Value) (bCells l) (bCells l)) ∧
              ((Plain (bCells l)) ∧
              ((Eq (α := List Value) (bCells o) ([])) ∧
              ((Eq (α := List Value) (gC seC s) ([])) ∧
              True))))))))))))))))))
              ((((((0 : Nat) + List.length l * (1 : Nat) ≤ List.length (bCells l) ∧ Plain (List.take (List.length l * (1 : Nat)) (List.drop (0 : Nat) (bCells l)))) ∧ True) ∧ ((True ∧ True) ∧ (True ∧ (IsB (Row.mk (List.take (List.length l * (1 : Nat)) (List.drop (0 : Nat) (bCells l))) true (Ob.cells true)) (List.length l) ∧ ((4 : Nat) ≤ List.length l ∧ List.length l ≤ (9223372036854775807 : Nat))))))) ∧
              ((Value.int IntKind.i64 st = Value.int IntKind.i64 st) ∧
              ((Value.int IntKind.i64 st = Value.int IntKind.i64 st) ∧
              (br (low4R (Row.mk (List.take (List.length l * (1 : Nat)) (List.drop (0 : Nat) (bCells l))) true (Ob.cells true)) == st)
               ((y.1 = (0 : Int)) ∧
               ((y.2 = (0 : Int)) ∧
               ((y.3 = false) ∧
               ((y.4 = false) ∧
               ((y.5 = false) ∧
               ((List.length o = (0 : Nat)) ∧
               ((y.6 = (0 : Int)) ∧
               ((y.7 = (0 : Int)) ∧
               ((y.8 = (0 : Int)) ∧
               ((y.9 = (0 : Int)) ∧
               ((List.length s = (0 : Nat)) ∧
               ((sc = (1 : Int)) ∧
               ((cd = (1 : Int)) ∧
               ((sn = st) ∧
               ((Eq (α := List Value) (bCells l) (bCells l)) ∧
               ((Plain (bCells l)) ∧
               ((Eq (α := List Value) (bCells o) ([])) ∧
               ((Eq (α := List Value) (gC seC s) ([])) ∧
               True))))))))))))))))))
               ((y.1 = ty) ∧
               ((y.2 = st) ∧
               ((y.3 = false) ∧
               ((y.4 = false) ∧
               ((y.5 = false) ∧
               ((List.length o = (0 : Nat)) ∧
               ((y.6 = (0 : Int)) ∧
               ((y.7 = (0 : Int)) ∧
               ((y.8 = (0 : Int)) ∧
               ((y.9 = (0 : Int)) ∧
               ((List.length s = (0 : Nat)) ∧
               ((sc = (0 : Int)) ∧
               ((cd = (0 : Int)) ∧
               ((sn = (0 : Int)) ∧
               ((Eq (α := List Value) (bCells l) (bCells l)) ∧
               ((Plain (bCells l)) ∧
               ((Eq (α := List Value) (bCells o) ([])) ∧
               ((Eq (α := List Value) (gC seC s) ([])) ∧
               True)))))))))))))))))))))))
             (br (ty == (3 : Int))
              (br (Int.ofNat (List.length l) != (4 : Int))
               ((y.1 = (0 : Int)) ∧
               ((y.2 = (0 : Int)) ∧
               ((y.3 = false) ∧
               ((y.4 = false) ∧
               ((y.5 = false) ∧
               ((List.length o = (0 : Nat)) ∧
               ((y.6 = (0 : Int)) ∧
               ((y.7 = (0 : Int)) ∧
               ((y.8 = (0 : Int)) ∧
               ((y.9 = (0 : Int)) ∧
               ((List.length s = (0 : Nat)) ∧
               ((sc = (2 : Int)) ∧
               ((cd = (6 : Int)) ∧
               ((sn = (0 : Int)) ∧
               ((Eq (α := List Value) (bCells l) (bCells l)) ∧
               ((Plain (bCells l)) ∧
               ((Eq (α := List Value) (bCells o) ([])) ∧
               ((Eq (α := List Value) (gC seC s) ([])) ∧
               True))))))))))))))))))
               ((((((0 : Nat) + List.length l * (1 : Nat) ≤ List.length (bCells l) ∧ Plain (List.take (List.length l * (1 : Nat)) (List.drop (0 : Nat) (bCells l)))) ∧ True) ∧ ((True ∧ True) ∧ (True ∧ (IsB (Row.mk (List.take (List.length l * (1 : Nat)) (List.drop (0 : Nat) (bCells l))) true (Ob.cells true)) (List.length l) ∧ ((4 : Nat) ≤ List.length l ∧ List.length l ≤ (9223372036854775807 : Nat))))))) ∧
               ((y.1 = ty) ∧
               ((y.2 = st) ∧
               ((y.3 = false) ∧
               ((y.4 = false) ∧
               ((y.5 = false) ∧
               ((List.length o = (0 : Nat)) ∧
               ((y.6 = num4R (Row.mk (List.take (List.length l * (1 : Nat)) (List.drop (0 : Nat) (bCells l))) true (Ob.cells true))) ∧
               ((y.7 = (0 : Int)) ∧
               ((y.8 = (0 : Int)) ∧
               ((y.9 = (0 : Int)) ∧
               ((List.length s = (0 : Nat)) ∧
               ((sc = (0 : Int)) ∧
               ((cd = (0 : Int)) ∧
               ((sn = (0 : Int)) ∧
               ((Eq (α := List Value) (bCells l) (bCells l)) ∧
               ((Plain (bCells l)) ∧
               ((Eq (α := List Value) (bCells o) ([])) ∧
               ((Eq (α := List Value) (gC seC s) ([])) ∧
               True))))))))))))))))))))
              (br (ty == (4 : Int))
               (((((True ∧ (True ∧ (True ∧ (((0 : Nat) + List.length l * (1 : Nat) ≤ List.length (bCells l) ∧ Plain (List.take (List.length l * (1 : Nat)) (List.drop (0 : Nat) (bCells l)))) ∧ True)))) ∧ ((True ∧ (True ∧ (True ∧ (True ∧ (True ∧ (True ∧ (True ∧ (True ∧ (True ∧ (True ∧ (True ∧ True))))))))))) ∧ True)) ∧ ((True ∧ True) ∧ ((Plain (rsC fl (Row.mk (List.take (List.length l * (1 : Nat)) (List.drop (0 : Nat) (bCells l))) true (Ob.cells true))) ∧ True) ∧ (IsB (Row.mk (List.take (List.length l * (1 : Nat)) (List.drop (0 : Nat) (bCells l))) true (Ob.cells true)) (List.length l) ∧ List.length l ≤ (16777216 : Nat)))))) ∧
               ((y.1 = rsI ty fl (Row.mk (List.take (List.length l * (1 : Nat)) (List.drop (0 : Nat) (bCells l))) true (Ob.cells true))) ∧
               ((y.2 = rsI st fl (Row.mk (List.take (List.length l * (1 : Nat)) (List.drop (0 : Nat) (bCells l))) true (Ob.cells true))) ∧
               ((y.3 = rsB false fl (Row.mk (List.take (List.length l * (1 : Nat)) (List.drop (0 : Nat) (bCells l))) true (Ob.cells true))) ∧
               ((y.4 = rsB false fl (Row.mk (List.take (List.length l * (1 : Nat)) (List.drop (0 : Nat) (bCells l))) true (Ob.cells true))) ∧
               ((y.5 = rsB (bit fl (1 : Int)) fl (Row.mk (List.take (List.length l * (1 : Nat)) (List.drop (0 : Nat) (bCells l))) true (Ob.cells true))) ∧
               ((List.length o = (0 : Nat)) ∧
               ((y.6 = rsI (0 : Int) fl (Row.mk (List.take (List.length l * (1 : Nat)) (List.drop (0 : Nat) (bCells l))) true (Ob.cells true))) ∧
               ((y.7 = rsI (0 : Int) fl (Row.mk (List.take (List.length l * (1 : Nat)) (List.drop (0 : Nat) (bCells l))) true (Ob.cells true))) ∧
               ((y.8 = rsI (0 : Int) fl (Row.mk (List.take (List.length l * (1 : Nat)) (List.drop (0 : Nat) (bCells l))) true (Ob.cells true))) ∧
               ((y.9 = rsI (0 : Int) fl (Row.mk (List.take (List.length l * (1 : Nat)) (List.drop (0 : Nat) (bCells l))) true (Ob.cells true))) ∧
               (((0 : Nat) = (0 : Nat)) ∧
               ((List.length s = rsN fl (Row.mk (List.take (List.length l * (1 : Nat)) (List.drop (0 : Nat) (bCells l))) true (Ob.cells true))) ∧
               ((sc = stScR fl (Row.mk (List.take (List.length l * (1 : Nat)) (List.drop (0 : Nat) (bCells l))) true (Ob.cells true))) ∧
               ((cd = stCdR fl (Row.mk (List.take (List.length l * (1 : Nat)) (List.drop (0 : Nat) (bCells l))) true (Ob.cells true))) ∧
               ((sn = (0 : Int)) ∧
               ((Eq (α := List Value) (bCells l) (bCells l)) ∧
               ((Plain (bCells l)) ∧
               ((Eq (α := List Value) (bCells o) ([])) ∧
               ((Eq (α := List Value) (gC seC s) (rsC fl (Row.mk (List.take (List.length l * (1 : Nat)) (List.drop (0 : Nat) (bCells l))) true (Ob.cells true)))) ∧
               ((Plain (gC seC s)) ∧
               True)))))))))))))))))))))
               (br (ty == (6 : Int))
                (br (Int.ofNat (List.length l) != (8 : Int))
                 ((y.1 = (0 : Int)) ∧
                 ((y.2 = (0 : Int)) ∧
                 ((y.3 = false) ∧
                 ((y.4 = false) ∧
                 ((y.5 = false) ∧
                 ((List.length o = (0 : Nat)) ∧
                 ((y.6 = (0 : Int)) ∧
                 ((y.7 = (0 : Int)) ∧
                 ((y.8 = (0 : Int)) ∧
                 ((y.9 = (0 : Int)) ∧
                 ((List.length s = (0 : Nat)) ∧
                 ((sc = (2 : Int)) ∧
                 ((cd = (6 : Int)) ∧
                 ((sn = (0 : Int)) ∧
                 ((Eq (α := List Value) (bCells l) (bCells l)) ∧
                 ((Plain (bCells l)) ∧
                 ((Eq (α := List Value) (bCells o) ([])) ∧
                 ((Eq (α := List Value) (gC seC s) ([])) ∧
                 True))))))))))))))))))
                 (br (decide ((0 : Nat) + List.length l * (1 : Nat) ≤ List.length (bCells l)))
                  (br (allOne (List.take (List.length l * (1 : Nat)) (List.drop (0 : Nat) (bCells l))))
                   (br (decide ((0 : Nat) + List.length l ≤ (16777216 : Nat)))
                    ((Value.int IntKind.i64 fl = Value.int IntKind.i64 fl) ∧
                    ((Value.int IntKind.i64 fl = Value.int IntKind.i64 fl) ∧
                    ((y.1 = ty) ∧
                    ((y.2 = st) ∧
                    ((y.3 = false) ∧
                    ((y.4 = false) ∧
                    ((y.5 = (iand IntKind.i64 fl (1 : Int) != (0 : Int))) ∧
                    (((0 : Nat) = (0 : Nat)) ∧
                    ((List.length o = (0 : Nat) + List.length l) ∧
                    ((y.6 = (0 : Int)) ∧
                    ((y.7 = (0 : Int)) ∧
                    ((y.8 = (0 : Int)) ∧
                    ((y.9 = (0 : Int)) ∧
                    ((List.length s = (0 : Nat)) ∧
                    ((sc = (0 : Int)) ∧
                    ((cd = (0 : Int)) ∧
                    ((sn = (0 : Int)) ∧
                    ((Eq (α := List Value) (bCells l) (bCells l)) ∧
                    ((Plain (bCells l)) ∧
                    ((Eq (α := List Value) (bCells o) ([] ++ List.take (List.length l * (1 : Nat)) (List.drop (0 : Nat) (bCells l)))) ∧
                    ((Plain (bCells o)) ∧
                    ((Eq (α := List Value) (gC seC s) ([])) ∧
                    True))))))))))))))))))))))
                    False)
                   False)
                  False))
                (br (ty == (7 : Int))
                 (br (decide (Int.ofNat (List.length l) < (8 : Int)))
                  ((y.1 = (0 : Int)) ∧
                  ((y.2 = (0 : Int)) ∧
                  ((y.3 = false) ∧
                  ((y.4 = false) ∧
                  ((y.5 = false) ∧
                  ((List.length o = (0 : Nat)) ∧
                  ((y.6 = (0 : Int)) ∧
                  ((y.7 = (0 : Int)) ∧
                  ((y.8 = (0 : Int)) ∧
                  ((y.9 = (0 : Int)) ∧
                  ((List.length s = (0 : Nat)) ∧
                  ((sc = (2 : Int)) ∧
                  ((cd = (6 : Int)) ∧
                  ((sn = (0 : Int)) ∧
                  ((Eq (α := List Value) (bCells l) (bCells l)) ∧
                  ((Plain (bCells l)) ∧
                  ((Eq (α := List Value) (bCells o) ([])) ∧
                  ((Eq (α := List Value) (gC seC s) ([])) ∧
                  True))))))))))))))))))
                  ((((((0 : Nat) + List.length l * (1 : Nat) ≤ List.length (bCells l) ∧ Plain (List.take (List.length l * (1 : Nat)) (List.drop (0 : Nat) (bCells l)))) ∧ True) ∧ ((True ∧ True) ∧ (True ∧ (IsB (Row.mk (List.take (List.length l * (1 : Nat)) (List.drop (0 : Nat) (bCells l))) true (Ob.cells true)) (List.length l) ∧ ((4 : Nat) ≤ List.length l ∧ List.length l ≤ (9223372036854775807 : Nat))))))) ∧
                  (br (decide ((0 : Int) ≤ (4 : Int) ∧ (4 : Int) ≤ (↑(List.length l) : Int) ∧ (↑(List.length l) : Int) ≤ (↑(List.length l) : Int)))
                   ((((((4 : Nat) + (Int.toNat (↑(List.length l) : Int) - (4 : Nat)) * (1 : Nat) ≤ List.length (bCells l) ∧ Plain (List.take ((Int.toNat (↑(List.length l) : Int) - (4 : Nat)) * (1 : Nat)) (List.drop (4 : Nat) (bCells l)))) ∧ True) ∧ ((True ∧ True) ∧ (True ∧ (IsB (Row.mk (List.take ((Int.toNat (↑(List.length l) : Int) - (4 : Nat)) * (1 : Nat)) (List.drop (4 : Nat) (bCells l))) true (Ob.cells true)) (Int.toNat (↑(List.length l) : Int) - (4 : Nat)) ∧ ((4 : Nat) ≤ Int.toNat (↑(List.length l) : Int) - (4 : Nat) ∧ Int.toNat (↑(List.length l) : Int) - (4 : Nat) ≤ (9223372036854775807 : Nat))))))) ∧
                   (br (decide ((0 : Int) ≤ (8 : Int) ∧ (8 : Int) ≤ (↑(List.length l) : Int) ∧ (↑(List.length l) : Int) ≤ (↑(List.length l) : Int)))
                    (br (decide ((8 : Nat) + (Int.toNat (↑(List.length l) : Int) - (8 : Nat)) * (1 : Nat) ≤ List.length (bCells l)))
                     (br (allOne (List.take ((Int.toNat (↑(List.length l) : Int) - (8 : Nat)) * (1 : Nat)) (List.drop (8 : Nat) (bCells l))))
                      (br (decide ((0 : Nat) + (Int.toNat (↑(List.length l) : Int) - (8 : Nat)) ≤ (16777216 : Nat)))
                       (br (decide ((0 : Int) ≤ (4 : Int) ∧ (4 : Int) ≤ (↑(List.length l) : Int) ∧ (↑(List.length l) : Int) ≤ (↑(List.length l) : Int)))
                        ((Value.slice (some (Addr.mk (0 : Nat) (4 : Nat) none)) (Int.toNat (↑(List.length l) : Int) - (4 : Nat)) (1 : Nat) = Value.slice (some (Addr.mk (0 : Nat) (4 : Nat) none)) (Int.toNat (↑(List.length l) : Int) - (4 : Nat)) (1 : Nat)) ∧
                        (br (decide ((0 : Int) ≤ (4 : Int) ∧ (4 : Int) ≤ (↑(List.length l) : Int) ∧ (↑(List.length l) : Int) ≤ (↑(List.length l) : Int)))
                         ((Value.slice (some (Addr.mk (0 : Nat) (4 : Nat) none)) (Int.toNat (↑(List.length l) : Int) - (4 : Nat)) (1 : Nat) = Value.slice (some (Addr.mk (0 : Nat) (4 : Nat) none)) (Int.toNat (↑(List.length l) : Int) - (4 : Nat)) (1 : Nat)) ∧
                         (br (decide ((0 : Int) ≤ (8 : Int) ∧ (8 : Int) ≤ (↑(List.length l) : Int) ∧ (↑(List.length l) : Int) ≤ (↑(List.length l) : Int)))
                          ((Value.slice (some (Addr.mk (0 : Nat) (8 : Nat) none)) (Int.toNat (↑(List.length l) : Int) - (8 : Nat)) (1 : Nat) = Value.slice (some (Addr.mk (0 : Nat) (8 : Nat) none)) (Int.toNat (↑(List.length l) : Int) - (8 : Nat)) (1 : Nat)) ∧
                          (br (decide ((0 : Int) ≤ (8 : Int) ∧ (8 : Int) ≤ (↑(List.length l) : Int) ∧ (↑(List.length l) : Int) ≤ (↑(List.length l) : Int)))
                           ((Value.slice (some (Addr.mk (0 : Nat) (8 : Nat) none)) (Int.toNat (↑(List.length l) : Int) - (8 : Nat)) (1 : Nat) = Value.slice (some (Addr.mk (0 : Nat) (8 : Nat) none)) (Int.toNat (↑(List.length l) : Int) - (8 : Nat)) (1 : Nat)) ∧
                           (br (decide ((0 : Int) ≤ (8 : Int) ∧ (8 : Int) ≤ (↑(List.length l) : Int) ∧ (↑(List.length l) : Int) ≤ (↑(List.length l) : Int)))
                            ((Value.slice (some (Addr.mk (0 : Nat) (8 : Nat) none)) (Int.toNat (↑(List.length l) : Int) - (8 : Nat)) (1 : Nat) = Value.slice (some (Addr.mk (0 : Nat) (8 : Nat) none)) (Int.toNat (↑(List.length l) : Int) - (8 : Nat)) (1 : Nat)) ∧
                            ((y.1 = ty) ∧
                            ((y.2 = st) ∧
                            ((y.3 = false) ∧
                            ((y.4 = false) ∧
                            ((y.5 = false) ∧
                            (((0 : Nat) = (0 : Nat)) ∧
                            ((List.length o = (0 : Nat) + (Int.toNat (↑(List.length l) : Int) - (8 : Nat))) ∧
                            ((y.6 = num4R (Row.mk (List.take ((Int.toNat (↑(List.length l) : Int) - (4 : Nat)) * (1 : Nat)) (List.drop (4 : Nat) (bCells l))) true (Ob.cells true))) ∧
                            ((y.7 = low4R (Row.mk (List.take (List.length l * (1 : Nat)) (List.drop (0 : Nat) (bCells l))) true (Ob.cells true))) ∧
                            ((y.8 = (0 : Int)) ∧
                            ((y.9 = (0 : Int)) ∧
                            ((List.length s = (0 : Nat)) ∧
                            ((sc = (0 : Int)) ∧
                            ((cd = (0 : Int)) ∧
                            ((sn = (0 : Int)) ∧
                            ((Eq (α := List Value) (bCells l) (bCells l)) ∧
                            ((Plain (bCells l)) ∧
                            ((Eq (α := List Value) (bCells o) ([] ++ List.take ((Int.toNat (↑(List.length l) : Int) - (8 : Nat)) * (1 : Nat)) (List.drop (8 : Nat) (bCells l)))) ∧
                            ((Plain (bCells o)) ∧
                            ((Eq (α := List Value) (gC seC s) ([])) ∧
                            True)))))))))))))))))))))
                            False))
                           False))
                          False))
                         False))
                        False)
                       False)
                      False)
                     False)
                    False))
                   False)))
                 (br (ty == (8 : Int))
                  (br (Int.ofNat (List.length l) != (4 : Int))
                   ((y.1 = (0 : Int)) ∧
                   ((y.2 = (0 : Int)) ∧
                   ((y.3 = false) ∧
                   ((y.4 = false) ∧
                   ((y.5 = false) ∧
                   ((List.length o = (0 : Nat)) ∧
                   ((y.6 = (0 : Int)) ∧
                   ((y.7 = (0 : Int)) ∧
                   ((y.8 = (0 : Int)) ∧
                   ((y.9 = (0 : Int)) ∧
                   ((List.length s = (0 : Nat)) ∧
                   ((sc = (2 : Int)) ∧
                   ((cd = (6 : Int)) ∧
                   ((sn = (0 : Int)) ∧
                   ((Eq (α := List Value) (bCells l) (bCells l)) ∧
                   ((Plain (bCells l)) ∧
                   ((Eq (α := List Value) (bCells o) ([])) ∧
                   ((Eq (α := List Value) (gC seC s) ([])) ∧
                   True))))))))))))))))))
                   ((((((0 : Nat) + List.length l * (1 : Nat) ≤ List.length (bCells l) ∧ Plain (List.take (List.length l * (1 : Nat)) (List.drop (0 : Nat) (bCells l)))) ∧ True) ∧ ((True ∧ True) ∧ (True ∧ (IsB (Row.mk (List.take (List.length l * (1 : Nat)) (List.drop (0 : Nat) (bCells l))) true (Ob.cells true)) (List.length l) ∧ ((4 : Nat) ≤ List.length l ∧ List.length l ≤ (9223372036854775807 : Nat))))))) ∧
                   (br (low4R (Row.mk (List.take (List.length l * (1 : Nat)) (List.drop (0 : Nat) (bCells l))) true (Ob.cells true)) == (0 : Int))
                    (br (st == (0 : Int))
                     ((y.1 = (0 : Int)) ∧
                     ((y.2 = (0 : Int)) ∧
                     ((y.3 = false) ∧
                     ((y.4 = false) ∧
                     ((y.5 = false) ∧
                     ((List.length o = (0 : Nat)) ∧
                     ((y.6 = (0 : Int)) ∧
                     ((y.7 = (0 : Int)) ∧
                     ((y.8 = (0 : Int)) ∧
                     ((y.9 = (0 : Int)) ∧
                     ((List.length s = (0 : Nat)) ∧
                     ((sc = (2 : Int)) ∧
                     ((cd = (1 : Int)) ∧
                     ((sn = (0 : Int)) ∧
                     ((Eq (α := List Value) (bCells l) (bCells l)) ∧
                     ((Plain (bCells l)) ∧
                     ((Eq (α := List Value) (bCells o) ([])) ∧
                     ((Eq (α := List Value) (gC seC s) ([])) ∧
                     True))))))))))))))))))
                     (br (low4R (Row.mk (List.take (List.length l * (1 : Nat)) (List.drop (0 : Nat) (bCells l))) true (Ob.cells true)) == (0 : Int))
                      ((y.1 = (0 : Int)) ∧
                      ((y.2 = (0 : Int)) ∧
                      ((y.3 = false) ∧
                      ((y.4 = false) ∧
                      ((y.5 = false) ∧
                      ((List.length o = (0 : Nat)) ∧
                      ((y.6 = (0 : Int)) ∧
                      ((y.7 = (0 : Int)) ∧
                      ((y.8 = (0 : Int)) ∧
                      ((y.9 = (0 : Int)) ∧
                      ((List.length s = (0 : Nat)) ∧
                      ((sc = (1 : Int)) ∧
                      ((cd = (1 : Int)) ∧
                      ((sn = st) ∧
                      ((Eq (α := List Value) (bCells l) (bCells l)) ∧
                      ((Plain (bCells l)) ∧
                      ((Eq (α := List Value) (bCells o) ([])) ∧
                      ((Eq (α := List Value) (gC seC s) ([])) ∧
                      True))))))))))))))))))
                      ((y.1 = ty) ∧
                      ((y.2 = st) ∧
                      ((y.3 = false) ∧
                      ((y.4 = false) ∧
                      ((y.5 = false) ∧
                      ((List.length o = (0 : Nat)) ∧
                      ((y.6 = (0 : Int)) ∧
                      ((y.7 = (0 : Int)) ∧
                      ((y.8 = low4R (Row.mk (List.take (List.length l * (1 : Nat)) (List.drop (0 : Nat) (bCells l))) true (Ob.cells true))) ∧
                      ((y.9 = (0 : Int)) ∧
                      ((List.length s = (0 : Nat)) ∧
                      ((sc = (0 : Int)) ∧
                      ((cd = (0 : Int)) ∧
                      ((sn = (0 : Int)) ∧
                      ((Eq (α := List Value) (bCells l) (bCells l)) ∧
                      ((Plain (bCells l)) ∧
                      ((Eq (α := List Value) (bCells o) ([])) ∧
                      ((Eq (α := List Value) (gC seC s) ([])) ∧
                      True))))))))))))))))))))
                    (br (low4R (Row.mk (List.take (List.length l * (1 : Nat)) (List.drop (0 : Nat) (bCells l))) true (Ob.cells true)) == (0 : Int))
                     ((y.1 = (0 : Int)) ∧
                     ((y.2 = (0 : Int)) ∧
                     ((y.3 = false) ∧
                     ((y.4 = false) ∧
                     ((y.5 = false) ∧
                     ((List.length o = (0 : Nat)) ∧
                     ((y.6 = (0 : Int)) ∧
                     ((y.7 = (0 : Int)) ∧
                     ((y.8 = (0 : Int)) ∧
                     ((y.9 = (0 : Int)) ∧
                     ((List.length s = (0 : Nat)) ∧
                     ((sc = (1 : Int)) ∧
                     ((cd = (1 : Int)) ∧
                     ((sn = st) ∧
                     ((Eq (α := List Value) (bCells l) (bCells l)) ∧
                     ((Plain (bCells l)) ∧
                     ((Eq (α := List Value) (bCells o) ([])) ∧
                     ((Eq (α := List Value) (gC seC s) ([])) ∧
                     True))))))))))))))))))
                     ((y.1 = ty) ∧
                     ((y.2 = st) ∧
                     ((y.3 = false) ∧
                     ((y.4 = false) ∧
                     ((y.5 = false) ∧
                     ((List.length o = (0 : Nat)) ∧
                     ((y.6 = (0 : Int)) ∧
                     ((y.7 = (0 : Int)) ∧
                     ((y.8 = low4R (Row.mk (List.take (List.length l * (1 : Nat)) (List.drop (0 : Nat) (bCells l))) true (Ob.cells true))) ∧
                     ((y.9 = (0 : Int)) ∧
                     ((List.length s = (0 : Nat)) ∧
                     ((sc = (0 : Int)) ∧
                     ((cd = (0 : Int)) ∧
                     ((sn = (0 : Int)) ∧
                     ((Eq (α := List Value) (bCells l) (bCells l)) ∧
                     ((Plain (bCells l)) ∧
                     ((Eq (α := List Value) (bCells o) ([])) ∧
                     ((Eq (α := List Value) (gC seC s) ([])) ∧
                     True))))))))))))))))))))))
                  (br (ty == (9 : Int))
                   (br (decide ((0 : Nat) + List.length l * (1 : Nat) ≤ List.length (bCells l)))
                    (br (allOne (List.take (List.length l * (1 : Nat)) (List.drop (0 : Nat) (bCells l))))
                     (br (decide ((0 : Nat) + List.length l ≤ (16777216 : Nat)))
                      ((Value.int IntKind.i64 fl = Value.int IntKind.i64 fl) ∧
                      ((Value.int IntKind.i64 fl = Value.int IntKind.i64 fl) ∧
                      ((y.1 = ty) ∧
                      ((y.2 = st) ∧
                      ((y.3 = false) ∧
                      ((y.4 = (iand IntKind.i64 fl (4 : Int) != (0 : Int))) ∧
                      ((y.5 = false) ∧
                      (((0 : Nat) = (0 : Nat)) ∧
                      ((List.length o = (0 : Nat) + List.length l) ∧
                      ((y.6 = (0 : Int)) ∧
                      ((y.7 = (0 : Int)) ∧
                      ((y.8 = (0 : Int)) ∧
                      ((y.9 = (0 : Int)) ∧
                      ((List.length s = (0 : Nat)) ∧
                      ((sc = (0 : Int)) ∧
                      ((cd = (0 : Int)) ∧
                      ((sn = (0 : Int)) ∧
                      ((Eq (α := List Value) (bCells l) (bCells l)) ∧
                      ((Plain (bCells l)) ∧
                      ((Eq (α := List Value) (bCells o) ([] ++ List.take (List.length l * (1 : Nat)) (List.drop (0 : Nat) (bCells l)))) ∧
                      ((Plain (bCells o)) ∧
                      ((Eq (α := List Value) (gC seC s) ([])) ∧
                      True))))))))))))))))))))))
                      False)
                     False)
                    False)
                   ((y.1 = ty) ∧
                   ((y.2 = st) ∧
                   ((y.3 = false) ∧
                   ((y.4 = false) ∧
                   ((y.5 = false) ∧
                   ((List.length o = (0 : Nat)) ∧
                   ((y.6 = (0 : Int)) ∧
                   ((y.7 = (0 : Int)) ∧
                   ((y.8 = (0 : Int)) ∧
                   ((y.9 = (0 : Int)) ∧
                   ((List.length s = (0 : Nat)) ∧
                   ((sc = (0 : Int)) ∧
                   ((cd = (0 : Int)) ∧
                   ((sn = (0 : Int)) ∧
                   ((Eq (α := List Value) (bCells l) (bCells l)) ∧
                   ((Plain (bCells l)) ∧
                   ((Eq (α := List Value) (bCells o) ([])) ∧
                   ((Eq (α := List Value) (gC seC s) ([])) ∧
                   True)))))))))))))))))))))))))))))
        (br (ty == (5 : Int))
         ((y.1 = (0 : Int)) ∧
         ((y.2 = (0 : Int)) ∧
         ((y.3 = false) ∧
         ((y.4 = false) ∧
         ((y.5 = false) ∧
         ((List.length o = (0 : Nat)) ∧
         ((y.6 = (0 : Int)) ∧
         ((y.7 = (0 : Int)) ∧
         ((y.8 = (0 : Int)) ∧
         ((y.9 = (0 : Int)) ∧
         ((List.length s = (0 : Nat)) ∧
         ((sc = (2 : Int)) ∧
         ((cd = (1 : Int)) ∧
         ((sn = (0 : Int)) ∧
         ((Eq (α := List Value) (bCells l) (bCells l)) ∧
         ((Plain (bCells l)) ∧
         ((Eq (α := List Value) (bCells o) ([])) ∧
         ((Eq (α := List Value) (gC seC s) ([])) ∧
         True))))))))))))))))))
         (br (ty == (0 : Int))
          (((((True ∧ (True ∧ (True ∧ (((0 : Nat) + List.length l * (1 : Nat) ≤ List.length (bCells l) ∧ Plain (List.take (List.length l * (1 : Nat)) (List.drop (0 : Nat) (bCells l)))) ∧ True)))) ∧ ((True ∧ (True ∧ (True ∧ (True ∧ (True ∧ (True ∧ (True ∧ (True ∧ (True ∧ (True ∧ (True ∧ True))))))))))) ∧ True)) ∧ ((True ∧ True) ∧ ((Plain (lBc ty fl st (Row.mk (List.take (List.length l * (1 : Nat)) (List.drop (0 : Nat) (bCells l))) true (Ob.cells true))) ∧ True) ∧ (IsB (Row.mk (List.take (List.length l * (1 : Nat)) (List.drop (0 : Nat) (bCells l))) true (Ob.cells true)) (List.length l) ∧ (List.length l ≤ (16777216 : Nat) ∧ Ty01 ty)))))) ∧
          ((y.1 = lI ty ty fl st (Row.mk (List.take (List.length l * (1 : Nat)) (List.drop (0 : Nat) (bCells l))) true (Ob.cells true))) ∧
          ((y.2 = lI st ty fl st (Row.mk (List.take (List.length l * (1 : Nat)) (List.drop (0 : Nat) (bCells l))) true (Ob.cells true))) ∧
          ((y.3 = lE ty fl st (Row.mk (List.take (List.length l * (1 : Nat)) (List.drop (0 : Nat) (bCells l))) true (Ob.cells true))) ∧
          ((y.4 = lF false ty fl st (Row.mk (List.take (List.length l * (1 : Nat)) (List.drop (0 : Nat) (bCells l))) true (Ob.cells true))) ∧
          ((y.5 = lZ false ty fl st (Row.mk (List.take (List.length l * (1 : Nat)) (List.drop (0 : Nat) (bCells l))) true (Ob.cells true))) ∧
          (((0 : Nat) = (0 : Nat)) ∧
          ((List.length o = lBn ty fl st (Row.mk (List.take (List.length l * (1 : Nat)) (List.drop (0 : Nat) (bCells l))) true (Ob.cells true))) ∧
          ((y.6 = lI (0 : Int) ty fl st (Row.mk (List.take (List.length l * (1 : Nat)) (List.drop (0 : Nat) (bCells l))) true (Ob.cells true))) ∧
          ((y.7 = lI (0 : Int) ty fl st (Row.mk (List.take (List.length l * (1 : Nat)) (List.drop (0 : Nat) (bCells l))) true (Ob.cells true))) ∧
          ((y.8 = lI (0 : Int) ty fl st (Row.mk (List.take (List.length l * (1 : Nat)) (List.drop (0 : Nat) (bCells l))) true (Ob.cells true))) ∧
          ((y.9 = lCs (0 : Int) ty fl st (Row.mk (List.take (List.length l * (1 : Nat)) (List.drop (0 : Nat) (bCells l))) true (Ob.cells true))) ∧
          ((List.length s = (0 : Nat)) ∧
          ((sc = lScR ty fl st (Row.mk (List.take (List.length l * (1 : Nat)) (List.drop (0 : Nat) (bCells l))) true (Ob.cells true))) ∧
          ((cd = lCdR ty fl st (Row.mk (List.take (List.length l * (1 : Nat)) (List.drop (0 : Nat) (bCells l))) true (Ob.cells true))) ∧
          ((sn = lSnR ty fl st (Row.mk (List.take (List.length l * (1 : Nat)) (List.drop (0 : Nat) (bCells l))) true (Ob.cells true))) ∧
          ((Eq (α := List Value) (bCells l) (bCells l)) ∧
          ((Plain (bCells l)) ∧
          ((Eq (α := List Value) (bCells o) (lBc ty fl st (Row.mk (List.take (List.length l * (1 : Nat)) (List.drop (0 : Nat) (bCells l))) true (Ob.cells true)))) ∧
          ((Plain (bCells o)) ∧
          ((Eq (α := List Value) (gC seC s) ([])) ∧
          True)))))))))))))))))))))
          (br (ty == (1 : Int))
           (((((True ∧ (True ∧ (True ∧ (((0 : Nat) + List.length l * (1 : Nat) ≤ List.length (bCells l) ∧ Plain (List.take (List.length l * (1 : Nat)) (List.drop (0 : Nat) (bCells l)))) ∧ True)))) ∧ ((True ∧ (True ∧ (True ∧ (True ∧ (True ∧ (True ∧ (True ∧ (True ∧ (True ∧ (True ∧ (True ∧ True))))))))))) ∧ True)) ∧ ((True ∧ True) ∧ ((Plain (lBc ty fl st (Row.mk (List.take (List.length l * (1 : Nat)) (List.drop (0 : Nat) (bCells l))) true (Ob.cells true))) ∧ True) ∧ (IsB (Row.mk (List.take (List.length l * (1 : Nat)) (List.drop (0 : Nat) (bCells l))) true (Ob.cells true)) (List.length l) ∧ (List.length l ≤ (16777216 : Nat) ∧ Ty01 ty)))))) ∧
           ((y.1 = lI ty ty fl st (Row.mk (List.take (List.length l * (1 : Nat)) (List.drop (0 : Nat) (bCells l))) true (Ob.cells true))) ∧
           ((y.2 = lI st ty fl st (Row.mk (List.take (List.length l * (1 : Nat)) (List.drop (0 : Nat) (bCells l))) true (Ob.cells true))) ∧
           ((y.3 = lE ty fl st (Row.mk (List.take (List.length l * (1 : Nat)) (List.drop (0 : Nat) (bCells l))) true (Ob.cells true))) ∧
           ((y.4 = lF false ty fl st (Row.mk (List.take (List.length l * (1 : Nat)) (List.drop (0 : Nat) (bCells l))) true (Ob.cells true))) ∧
           ((y.5 = lZ false ty fl st (Row.mk (List.take (List.length l * (1 : Nat)) (List.drop (0 : Nat) (bCells l))) true (Ob.cells true))) ∧
           (((0 : Nat) = (0 : Nat)) ∧
           ((List.length o = lBn ty fl st (Row.mk (List.take (List.length l * (1 : Nat)) (List.drop (0 : Nat) (bCells l))) true (Ob.cells true))) ∧
           ((y.6 = lI (0 : Int) ty fl st (Row.mk (List.take (List.length l * (1 : Nat)) (List.drop (0 : Nat) (bCells l))) true (Ob.cells true))) ∧
           ((y.7 = lI (0 : Int) ty fl st (Row.mk (List.take (List.length l * (1 : Nat)) (List.drop (0 : Nat) (bCells l))) true (Ob.cells true))) ∧
           ((y.8 = lI (0 : Int) ty fl st (Row.mk (List.take (List.length l * (1 : Nat)) (List.drop (0 : Nat) (bCells l))) true (Ob.cells true))) ∧
           ((y.9 = lCs (0 : Int) ty fl st (Row.mk (List.take (List.length l * (1 : Nat)) (List.drop (0 : Nat) (bCells l))) true (Ob.cells true))) ∧
           ((List.length s = (0 : Nat)) ∧
           ((sc = lScR ty fl st (Row.mk (List.take (List.length l * (1 : Nat)) (List.drop (0 : Nat) (bCells l))) true (Ob.cells true))) ∧
           ((cd = lCdR ty fl st (Row.mk (List.take (List.length l * (1 : Nat)) (List.drop (0 : Nat) (bCells l))) true (Ob.cells true))) ∧
           ((sn = lSnR ty fl st (Row.mk (List.take (List.length l * (1 : Nat)) (List.drop (0 : Nat) (bCells l))) true (Ob.cells true))) ∧
           ((Eq (α := List Value) (bCells l) (bCells l)) ∧
           ((Plain (bCells l)) ∧
           ((Eq (α := List Value) (bCells o) (lBc ty fl st (Row.mk (List.take (List.length l * (1 : Nat)) (List.drop (0 : Nat) (bCells l))) true (Ob.cells true)))) ∧
           ((Plain (bCells o)) ∧
           ((Eq (α := List Value) (gC seC s) ([])) ∧
           True)))))))))))))))))))))
           (br (ty == (2 : Int))
            (br (Int.ofNat (List.length l) != (5 : Int))
             ((y.1 = (0 : Int)) ∧
             ((y.2 = (0 : Int)) ∧
             ((y.3 = false) ∧
             ((y.4 = false) ∧
             ((y.5 = false) ∧
             ((List.length o = (0 : Nat)) ∧
             ((y.6 = (0 : Int)) ∧
             ((y.7 = (0 : Int)) ∧
             ((y.8 = (0 : Int)) ∧
             ((y.9 = (0 : Int)) ∧
             ((List.length s = (0 : Nat)) ∧
             ((sc = (1 : Int)) ∧
             ((cd = (6 : Int)) ∧
             ((sn = st) ∧
             ((Eq (α := List Value) (bCells l) (bCells l)) ∧
             ((Plain (bCells l)) ∧
             ((Eq (α := List Value) (bCells o) ([])) ∧
             ((Eq (α := List Value) (gC seC s) ([])) ∧
             True))))))))))))))))))
             ((((((0 : Nat) + List.length l * (1 : Nat) ≤ List.length (bCells l) ∧ Plain (List.take (List.length l * (1 : Nat)) (List.drop (0 : Nat) (bCells l)))) ∧ True) ∧ ((True ∧ True) ∧ (True ∧ (IsB (Row.mk (List.take (List.length l * (1 : Nat)) (List.drop (0 : Nat) (bCells l))) true (Ob.cells true)) (List.length l) ∧ ((4 : Nat) ≤ List.length l ∧ List.length l ≤ (9223372036854775807 : Nat))))))) ∧
             ((Value.int IntKind.i64 st = Value.int IntKind.i64 st) ∧
             ((Value.int IntKind.i64 st = Value.int IntKind.i64 st) ∧
             (br (low4R (Row.mk (List.take (List.length l * (1 : Nat)) (List.drop (0 : Nat) (bCells l))) true (Ob.cells true)) == st)
              ((y.1 = (0 : Int)) ∧
              ((y.2 = (0 : Int)) ∧
              ((y.3 = false) ∧
              ((y.4 = false) ∧
              ((y.5 = false) ∧
              ((List.length o = (0 : Nat)) ∧
              ((y.6 = (0 : Int)) ∧
              ((y.7 = (0 : Int)) ∧
              ((y.8 = (0 : Int)) ∧
              ((y.9 = (0 : Int)) ∧
              ((List.length s = (0 : Nat)) ∧
              ((sc = (1 : Int)) ∧
              ((cd = (1 : Int)) ∧
              ((sn = st) ∧
              ((Eq (α := List Value) (bCells l) (bCells l)) ∧
              ((Plain (bCells l)) ∧
              ((Eq (α := List Value) (bCells o) ([])) ∧
              ((Eq (α := List Value) (gC seC s) ([])) ∧
              True))))))))))))))))))
              ((y.1 = ty) ∧
              ((y.2 = st) ∧
              ((y.3 = false) ∧
              ((y.4 = false) ∧
              ((y.5 = false) ∧
              ((List.length o = (0 : Nat)) ∧
              ((y.6 = (0 : Int)) ∧
              ((y.7 = (0 : Int)) ∧
              ((y.8 = (0 : Int)) ∧
              ((y.9 = (0 : Int)) ∧
              ((List.length s = (0 : Nat)) ∧
              ((sc = (0 : Int)) ∧
              ((cd = (0 : Int)) ∧
              ((sn = (0 : Int)) ∧
              ((Eq (α := List Value) (bCells l) (bCells l)) ∧
              ((Plain (bCells l)) ∧
              ((Eq (α := List Value) (bCells o) ([])) ∧
              ((Eq (α := List Value) (gC seC s) ([])) ∧
              True)))))))))))))))))))))))
            (br (ty == (3 : Int))
             (br (Int.ofNat (List.length l) != (4 : Int))
              ((y.1 = (0 : Int)) ∧
              ((y.2 = (0 : Int)) ∧
              ((y.3 = false) ∧
              ((y.4 = false) ∧
              ((y.5 = false) ∧
              ((List.length o = (0 : Nat)) ∧
              ((y.6 = (0 : Int)) ∧
              ((y.7 = (0 : Int)) ∧
              ((y.8 = (0 : Int)) ∧
              ((y.9 = (0 : Int)) ∧
              ((List.length s = (0 : Nat)) ∧
              ((sc = (2 : Int)) ∧
              ((cd = (6 : Int)) ∧
              ((sn = (0 : Int)) ∧
              ((Eq (α := List Value) (bCells l) (bCells l)) ∧
              ((Plain (bCells l)) ∧
              ((Eq (α := List Value) (bCells o) ([])) ∧
              ((Eq (α := List Value) (gC seC s) ([])) ∧
              True))))))))))))))))))
              ((((((0 : Nat) + List.length l * (1 : Nat) ≤ List.length (bCells l) ∧ Plain (List.take (List.length l * (1 : Nat)) (List.drop (0 : Nat) (bCells l)))) ∧ True) ∧ ((True ∧ True) ∧ (True ∧ (IsB (Row.mk (List.take (List.length l * (1 : Nat)) (List.drop (0 : Nat) (bCells l))) true (Ob.cells true)) (List.length l) ∧ ((4 : Nat) ≤ List.length l ∧ List.length l ≤ (9223372036854775807 : Nat))))))) ∧
              ((y.1 = ty) ∧
              ((y.2 = st) ∧
              ((y.3 = false) ∧
              ((y.4 = false) ∧
              ((y.5 = false) ∧
              ((List.length o = (0 : Nat)) ∧
              ((y.6 = num4R (Row.mk (List.take (List.length l * (1 : Nat)) (List.drop (0 : Nat) (bCells l))) true (Ob.cells true))) ∧
              ((y.7 = (0 : Int)) ∧
              ((y.8 = (0 : Int)) ∧
              ((y.9 = (0 : Int)) ∧
              ((List.length s = (0 : Nat)) ∧
              ((sc = (0 : Int)) ∧
              ((cd = (0 : Int)) ∧
              ((sn = (0 : Int)) ∧
              ((Eq (α := List Value) (bCells l) (bCells l)) ∧
              ((Plain (bCells l)) ∧
              ((Eq (α := List Value) (bCells o) ([])) ∧
              ((Eq (α := List Value) (gC seC s) ([])) ∧
              True))))))))))))))))))))
             (br (ty == (4 : Int))
              (((((True ∧ (True ∧ (True ∧ (((0 : Nat) + List.length l * (1 : Nat) ≤ List.length (bCells l) ∧ Plain (List.take (List.length l * (1 : Nat)) (List.drop (0 : Nat) (bCells l)))) ∧ True)))) ∧ ((True ∧ (True ∧ (True ∧ (True ∧ (True ∧ (True ∧ (True ∧ (True ∧ (True ∧ (True ∧ (True ∧ True))))))))))) ∧ True)) ∧ ((True ∧ True) ∧ ((Plain (rsC fl (Row.mk (List.take (List.length l * (1 : Nat)) (List.drop (0 : Nat) (bCells l))) true (Ob.cells true))) ∧ True) ∧ (IsB (Row.mk (List.take (List.length l * (1 : Nat)) (List.drop (0 : Nat) (bCells l))) true (Ob.cells true)) (List.length l) ∧ List.length l ≤ (16777216 : Nat)))))) ∧
              ((y.1 = rsI ty fl (Row.mk (List.take (List.length l * (1 : Nat)) (List.drop (0 : Nat) (bCells l))) true (Ob.cells true))) ∧
              ((y.2 = rsI st fl (Row.mk (List.take (List.length l * (1 : Nat)) (List.drop (0 : Nat) (bCells l))) true (Ob.cells true))) ∧
              ((y.3 = rsB false fl (Row.mk (List.take (List.length l * (1 : Nat)) (List.drop (0 : Nat) (bCells l))) true (Ob.cells true))) ∧
              ((y.4 = rsB false fl (Row.mk (List.take (List.length l * (1 : Nat)) (List.drop (0 : Nat) (bCells l))) true (Ob.cells true))) ∧
              ((y.5 = rsB (bit fl (1 : Int)) fl (Row.mk (List.take (List.length l * (1 : Nat)) (List.drop (0 : Nat) (bCells l))) true (Ob.cells true))) ∧
              ((List.length o = (0 : Nat)) ∧
              ((y.6 = rsI (0 : Int) fl (Row.mk (List.take (List.length l * (1 : Nat)) (List.drop (0 : Nat) (bCells l))) true (Ob.cells true))) ∧
              ((y.7 = rsI (0 : Int) fl (Row.mk (List.take (List.length l * (1 : Nat)) (List.drop (0 : Nat) (bCells l))) true (Ob.cells true))) ∧
              ((y.8 = rsI (0 : Int) fl (Row.mk (List.take (List.length l * (1 : Nat)) (List.drop (0 : Nat) (bCells l))) true (Ob.cells true))) ∧
              ((y.9 = rsI (0 : Int) fl (Row.mk (List.take (List.length l * (1 : Nat)) (List.drop (0 : Nat) (bCells l))) true (Ob.cells true))) ∧
              (((0 : Nat) = (0 : Nat)) ∧
              ((List.length s = rsN fl (Row.mk (List.take (List.length l * (1 : Nat)) (List.drop (0 : Nat) (bCells l))) true (Ob.cells true))) ∧
              ((sc = stScR fl (Row.mk (List.take (List.length l * (1 : Nat)) (List.drop (0 : Nat) (bCells l))) true (Ob.cells true))) ∧
              ((cd = stCdR fl (Row.mk (List.take (List.length l * (1 : Nat)) (List.drop (0 : Nat) (bCells l))) true (Ob.cells true))) ∧
              ((sn = (0 : Int)) ∧
              ((Eq (α := List Value) (bCells l) (bCells l)) ∧
              ((Plain (bCells l)) ∧
              ((Eq (α := List Value) (bCells o) ([])) ∧
              ((Eq (α := List Value) (gC seC s) (rsC fl (Row.mk (List.take (List.length l * (1 : Nat)) (List.drop (0 : Nat) (bCells l))) true (Ob.cells true)))) ∧
              ((Plain (gC seC s)) ∧
              True)))))))))))))))))))))
              (br (ty == (6 : Int))
               (br (Int.ofNat (List.length l) != (8 : Int))
                ((y.1 = (0 : Int)) ∧
                ((y.2 = (0 : Int)) ∧
                ((y.3 = false) ∧
                ((y.4 = false) ∧
                ((y.5 = false) ∧
                ((List.length o = (0 : Nat)) ∧
                ((y.6 = (0 : Int)) ∧
                ((y.7 = (0 : Int)) ∧
                ((y.8 = (0 : Int)) ∧
                ((y.9 = (0 : Int)) ∧
                ((List.length s = (0 : Nat)) ∧
                ((sc = (2 : Int)) ∧
                ((cd = (6 : Int)) ∧
                ((sn = (0 : Int)) ∧
                ((Eq (α := List Value) (bCells l) (bCells l)) ∧
                ((Plain (bCells l)) ∧
                ((Eq (α := List Value) (bCells o) ([])) ∧
                ((Eq (α := List Value) (gC seC s) ([])) ∧
                True))))))))))))))))))
                (br (decide ((0 : Nat) + List.length l * (1 : Nat) ≤ List.length (bCells l)))
                 (br (allOne (List.take (List.length l * (1 : Nat)) (List.drop (0 : Nat) (bCells l))))
                  (br (decide ((0 : Nat) + List.length l ≤ (16777216 : Nat)))
                   ((Value.int IntKind.i64 fl = Value.int IntKind.i64 fl) ∧
                   ((Value.int IntKind.i64 fl = Value.int IntKind.i64 fl) ∧
                   ((y.1 = ty) ∧
                   ((y.2 = st) ∧
                   ((y.3 = false) ∧
                   ((y.4 = false) ∧
                   ((y.5 = (iand IntKind.i64 fl (1 : Int) != (0 : Int))) ∧
                   (((0 : Nat) = (0 : Nat)) ∧
                   ((List.length o = (0 : Nat) + List.length l) ∧
                   ((y.6 = (0 : Int)) ∧
                   ((y.7 = (0 : Int)) ∧
                   ((y.8 = (0 : Int)) ∧
                   ((y.9 = (0 : Int)) ∧
                   ((List.length s = (0 : Nat)) ∧
                   ((sc = (0 : Int)) ∧
                   ((cd = (0 : Int)) ∧
                   ((sn = (0 : Int)) ∧
                   ((Eq (α := List Value) (bCells l) (bCells l)) ∧
                   ((Plain (bCells l)) ∧
                   ((Eq (α := List Value) (bCells o) ([] ++ List.take (List.length l * (1 : Nat)) (List.drop (0 : Nat) (bCells l)))) ∧
                   ((Plain (bCells o)) ∧
                   ((Eq (α := List Value) (gC seC s) ([])) ∧
                   True))))))))))))))))))))))
                   False)
                  False)
                 False))
               (br (ty == (7 : Int))
                (br (decide (Int.ofNat (List.length l) < (8 : Int)))
                 ((y.1 = (0 : Int)) ∧
                 ((y.2 = (0 : Int)) ∧
                 ((y.3 = false) ∧
                 ((y.4 = false) ∧
                 ((y.5 = false) ∧
                 ((List.length o = (0 : Nat)) ∧
                 ((y.6 = (0 : Int)) ∧
                 ((y.7 = (0 : Int)) ∧
                 ((y.8 = (0 : Int)) ∧
                 ((y.9 = (0 : Int)) ∧
                 ((List.length s = (0 : Nat)) ∧
                 ((sc = (2 : Int)) ∧
                 ((cd = (6 : Int)) ∧
                 ((sn = (0 : Int)) ∧
                 ((Eq (α := List Value) (bCells l) (bCells l)) ∧
                 ((Plain (bCells l)) ∧
                 ((Eq (α := List Value) (bCells o) ([])) ∧
                 ((Eq (α := List Value) (gC seC s) ([])) ∧
                 True))))))))))))))))))
                 ((((((0 : Nat) + List.length l * (1 : Nat) ≤ List.length (bCells l) ∧ Plain (List.take (List.length l * (1 : Nat)) (List.drop (0 : Nat) (bCells l)))) ∧ True) ∧ ((True ∧ True) ∧ (True ∧ (IsB (Row.mk (List.take (List.length l * (1 : Nat)) (List.drop (0 : Nat) (bCells l))) true (Ob.cells true)) (List.length l) ∧ ((4 : Nat) ≤ List.length l ∧ List.length l ≤ (9223372036854775807 : Nat))))))) ∧
                 (br (decide ((0 : Int) ≤ (4 : Int) ∧ (4 : Int) ≤ (↑(List.length l) : Int) ∧ (↑(List.length l) : Int) ≤ (↑(List.length l) : Int)))
                  ((((((4 : Nat) + (Int.toNat (↑(List.length l) : Int) - (4 : Nat)) * (1 : Nat) ≤ List.length (bCells l) ∧ Plain (List.take ((Int.toNat (↑(List.length l) : Int) - (4 : Nat)) * (1 : Nat)) (List.drop (4 : Nat) (bCells l)))) ∧ True) ∧ ((True ∧ True) ∧ (True ∧ (IsB (Row.mk (List.take ((Int.toNat (↑(List.length l) : Int) - (4 : Nat)) * (1 : Nat)) (List.drop (4 : Nat) (bCells l))) true (Ob.cells true)) (Int.toNat (↑(List.length l) : Int) - (4 : Nat)) ∧ ((4 : Nat) ≤ Int.toNat (↑(List.length l) : Int) - (4 : Nat) ∧ Int.toNat (↑(List.length l) : Int) - (4 : Nat) ≤ (9223372036854775807 : Nat))))))) ∧
                  (br (decide ((0 : Int) ≤ (8 : Int) ∧ (8 : Int) ≤ (↑(List.length l) : Int) ∧ (↑(List.length l) : Int) ≤ (↑(List.length l) : Int)))
                   (br (decide ((8 : Nat) + (Int.toNat (↑(List.length l) : Int) - (8 : Nat)) * (1 : Nat) ≤ List.length (bCells l)))
                    (br (allOne (List.take ((Int.toNat (↑(List.length l) : Int) - (8 : Nat)) * (1 : Nat)) (List.drop (8 : Nat) (bCells l))))
                     (br (decide ((0 : Nat) + (Int.toNat (↑(List.length l) : Int) - (8 : Nat)) ≤ (16777216 : Nat)))
                      (br (decide ((0 : Int) ≤ (4 : Int) ∧ (4 : Int) ≤ (↑(List.length l) : Int) ∧ (↑(List.length l) : Int) ≤ (↑(List.length l) : Int)))
                       ((Value.slice (some (Addr.mk (0 : Nat) (4 : Nat) none)) (Int.toNat (↑(List.length l) : Int) - (4 : Nat)) (1 : Nat) = Value.slice (some (Addr.mk (0 : Nat) (4 : Nat) none)) (Int.toNat (↑(List.length l) : Int) - (4 : Nat)) (1 : Nat)) ∧
                       (br (decide ((0 : Int) ≤ (4 : Int) ∧ (4 : Int) ≤ (↑(List.length l) : Int) ∧ (↑(List.length l) : Int) ≤ (↑(List.length l) : Int)))
                        ((Value.slice (some (Addr.mk (0 : Nat) (4 : Nat) none)) (Int.toNat (↑(List.length l) : Int) - (4 : Nat)) (1 : Nat) = Value.slice (some (Addr.mk (0 : Nat) (4 : Nat) none)) (Int.toNat (↑(List.length l) : Int) - (4 : Nat)) (1 : Nat)) ∧
                        (br (decide ((0 : Int) ≤ (8 : Int) ∧ (8 : Int) ≤ (↑(List.length l) : Int) ∧ (↑(List.length l) : Int) ≤ (↑(List.length l) : Int)))
                         ((Value.slice (some (Addr.mk (0 : Nat) (8 : Nat) none)) (Int.toNat (↑(List.length l) : Int) - (8 : Nat)) (1 : Nat) = Value.slice (some (Addr.mk (0 : Nat) (8 : Nat) none)) (Int.toNat (↑(List.length l) : Int) - (8 : Nat)) (1 : Nat)) ∧
                         (br (decide ((0 : Int) ≤ (8 : Int) ∧ (8 : Int) ≤ (↑(List.length l) : Int) ∧ (↑(List.length l) : Int) ≤ (↑(List.length l) : Int)))
                          ((Value.slice (some (Addr.mk (0 : Nat) (8 : Nat) none)) (Int.toNat (↑(List.length l) : Int) - (8 : Nat)) (1 : Nat) = Value.slice (some (Addr.mk (0 : Nat) (8 : Nat) none)) (Int.toNat (↑(List.length l) : Int) - (8 : Nat)) (1 : Nat)) ∧
                          (br (decide ((0 : Int) ≤ (8 : Int) ∧ (8 : Int) ≤ (↑(List.length l) : Int) ∧ (↑(List.length l) : Int) ≤ (↑(List.length l) : Int)))
                           ((Value.slice (some (Addr.mk (0 : Nat) (8 : Nat) none)) (Int.toNat (↑(List.length l) : Int) - (8 : Nat)) (1 : Nat) = Value.slice (some (Addr.mk (0 : Nat) (8 : Nat) none)) (Int.toNat (↑(List.length l) : Int) - (8 : Nat)) (1 : Nat)) ∧
                           ((y.1 = ty) ∧
                           ((y.2 = st) ∧
                           ((y.3 = false) ∧
                           ((y.4 = false) ∧
                           ((y.5 = false) ∧
                           (((0 : Nat) = (0 : Nat)) ∧
                           ((List.length o = (0 : Nat) + (Int.toNat (↑(List.length l) : Int) - (8 : Nat))) ∧
                           ((y.6 = num4R (Row.mk (List.take ((Int.toNat (↑(List.length l) : Int) - (4 : Nat)) * (1 : Nat)) (List.drop (4 : Nat) (bCells l))) true (Ob.cells true))) ∧
                           ((y.7 = low4R (Row.mk (List.take (List.length l * (1 : Nat)) (List.drop (0 : Nat) (bCells l))) true (Ob.cells true))) ∧
                           ((y.8 = (0 : Int)) ∧
                           ((y.9 = (0 : Int)) ∧
                           ((List.length s = (0 : Nat)) ∧
                           ((sc = (0 : Int)) ∧
                           ((cd = (0 : Int)) ∧
                           ((sn = (0 : Int)) ∧
                           ((Eq (α := List Value) (bCells l) (bCells l)) ∧
                           ((Plain (bCells l)) ∧
                           ((Eq (α := List Value) (bCells o) ([] ++ List.take ((Int.toNat (↑(List.length l) : Int) - (8 : Nat)) * (1 : Nat)) (List.drop (8 : Nat) (bCells l)))) ∧
                           ((Plain (bCells o)) ∧
                           ((Eq (α := List Value) (gC seC s) ([])) ∧
                           True)))))))))))))))))))))
                           False))
                          False))
                         False))
                        False))
                       False)
                      False)
                     False)
                    False)
                   False))
                  False)))
                (br (ty == (8 : Int))
                 (br (Int.ofNat (List.length l) != (4 : Int))
                  ((y.1 = (0 : Int)) ∧
                  ((y.2 = (0 : Int)) ∧
                  ((y.3 = false) ∧
                  ((y.4 = false) ∧
                  ((y.5 = false) ∧
                  ((List.length o = (0 : Nat)) ∧
                  ((y.6 = (0 : Int)) ∧
                  ((y.7 = (0 : Int)) ∧
                  ((y.8 = (0 : Int)) ∧
                  ((y.9 = (0 : Int)) ∧
                  ((List.length s = (0 : Nat)) ∧
                  ((sc = (2 : Int)) ∧
                  ((cd = (6 : Int)) ∧
                  ((sn = (0 : Int)) ∧
                  ((Eq (α := List Value) (bCells l) (bCells l)) ∧
                  ((Plain (bCells l)) ∧
                  ((Eq (α := List Value) (bCells o) ([])) ∧
                  ((Eq (α := List Value) (gC seC s) ([])) ∧
                  True))))))))))))))))))
                  ((((((0 : Nat) + List.length l * (1 : Nat) ≤ List.length (bCells l) ∧ Plain (List.take (List.length l * (1 : Nat)) (List.drop (0 : Nat) (bCells l)))) ∧ True) ∧ ((True ∧ True) ∧ (True ∧ (IsB (Row.mk (List.take (List.length l * (1 : Nat)) (List.drop (0 : Nat) (bCells l))) true (Ob.cells true)) (List.length l) ∧ ((4 : Nat) ≤ List.length l ∧ List.length l ≤ (9223372036854775807 : Nat))))))) ∧
                  (br (low4R (Row.mk (List.take (List.length l * (1 : Nat)) (List.drop (0 : Nat) (bCells l))) true (Ob.cells true)) == (0 : Int))
                   (br (st == (0 : Int))
                    ((y.1 = (0 : Int)) ∧
                    ((y.2 = (0 : Int)) ∧
                    ((y.3 = false) ∧
                    ((y.4 = false) ∧
                    ((y.5 = false) ∧
                    ((List.length o = (0 : Nat)) ∧
                    ((y.6 = (0 : Int)) ∧
                    ((y.7 = (0 : Int)) ∧
                    ((y.8 = (0 : Int)) ∧
                    ((y.9 = (0 : Int)) ∧
                    ((List.length s = (0 : Nat)) ∧
                    ((sc = (2 : Int)) ∧
                    ((cd = (1 : Int)) ∧
                    ((sn = (0 : Int)) ∧
                    ((Eq (α := List Value) (bCells l) (bCells l)) ∧
                    ((Plain (bCells l)) ∧
                    ((Eq (α := List Value) (bCells o) ([])) ∧
                    ((Eq (α := List Value) (gC seC s) ([])) ∧
                    True))))))))))))))))))
                    (br (low4R (Row.mk (List.take (List.length l * (1 : Nat)) (List.drop (0 : Nat) (bCells l))) true (Ob.cells true)) == (0 : Int))
                     ((y.1 = (0 : Int)) ∧
                     ((y.2 = (0 : Int)) ∧
                     ((y.3 = false) ∧
                     ((y.4 = false) ∧
                     ((y.5 = false) ∧
                     ((List.length o = (0 : Nat)) ∧
                     ((y.6 = (0 : Int)) ∧
                     ((y.7 = (0 : Int)) ∧
                     ((y.8 = (0 : Int)) ∧
                     ((y.9 = (0 : Int)) ∧
                     ((List.length s = (0 : Nat)) ∧
                     ((sc = (1 : Int)) ∧
                     ((cd = (1 : Int)) ∧
                     ((sn = st) ∧
                     ((Eq (α := List Value) (bCells l) (bCells l)) ∧
                     ((Plain (bCells l)) ∧
                     ((Eq (α := List Value) (bCells o) ([])) ∧
                     ((Eq (α := List Value) (gC seC s) ([])) ∧
                     True))))))))))))))))))
                     ((y.1 = ty) ∧
                     ((y.2 = st) ∧
                     ((y.3 = false) ∧
                     ((y.4 = false) ∧
                     ((y.5 = false) ∧
                     ((List.length o = (0 : Nat)) ∧
                     ((y.6 = (0 : Int)) ∧
                     ((y.7 = (0 : Int)) ∧
                     ((y.8 = low4R (Row.mk (List.take (List.length l * (1 : Nat)) (List.drop (0 : Nat) (bCells l))) true (Ob.cells true))) ∧
                     ((y.9 = (0 : Int)) ∧
                     ((List.length s = (0 : Nat)) ∧
                     ((sc = (0 : Int)) ∧
                     ((cd = (0 : Int)) ∧
                     ((sn = (0 : Int)) ∧
                     ((Eq (α := List Value) (bCells l) (bCells l)) ∧
                     ((Plain (bCells l)) ∧
                     ((Eq (α := List Value) (bCells o) ([])) ∧
                     ((Eq (α := List Value) (gC seC s) ([])) ∧
                     True))))))))))))))))))))
                   (br (low4R (Row.mk (List.take (List.length l * (1 : Nat)) (List.drop (0 : Nat) (bCells l))) true (Ob.cells true)) == (0 : Int))
                    ((y.1 = (0 : Int)) ∧
                    ((y.2 = (0 : Int)) ∧
                    ((y.3 = false) ∧
                    ((y.4 = false) ∧
                    ((y.5 = false) ∧
                    ((List.length o = (0 : Nat)) ∧
                    ((y.6 = (0 : Int)) ∧
                    ((y.7 = (0 : Int)) ∧
                    ((y.8 = (0 : Int)) ∧
                    ((y.9 = (0 : Int)) ∧
                    ((List.length s = (0 : Nat)) ∧
                    ((sc = (1 : Int)) ∧
                    ((cd = (1 : Int)) ∧
                    ((sn = st) ∧
                    ((Eq (α := List Value) (bCells l) (bCells l)) ∧
                    ((Plain (bCells l)) ∧
                    ((Eq (α := List Value) (bCells o) ([])) ∧
                    ((Eq (α := List Value) (gC seC s) ([])) ∧
                    True))))))))))))))))))
                    ((y.1 = ty) ∧
                    ((y.2 = st) ∧
                    ((y.3 = false) ∧
                    ((y.4 = false) ∧
                    ((y.5 = false) ∧
                    ((List.length o = (0 : Nat)) ∧
                    ((y.6 = (0 : Int)) ∧
                    ((y.7 = (0 : Int)) ∧
                    ((y.8 = low4R (Row.mk (List.take (List.length l * (1 : Nat)) (List.drop (0 : Nat) (bCells l))) true (Ob.cells true))) ∧
                    ((y.9 = (0 : Int)) ∧
                    ((List.length s = (0 : Nat)) ∧
                    ((sc = (0 : Int)) ∧
                    ((cd = (0 : Int)) ∧
                    ((sn = (0 : Int)) ∧
                    ((Eq (α := List Value) (bCells l) (bCells l)) ∧
                    ((Plain (bCells l)) ∧
                    ((Eq (α := List Value) (bCells o) ([])) ∧
                    ((Eq (α := List Value) (gC seC s) ([])) ∧
                    True))))))))))))))))))))))
                 (br (ty == (9 : Int))
                  (br (decide ((0 : Nat) + List.length l * (1 : Nat) ≤ List.length (bCells l)))
                   (br (allOne (List.take (List.length l * (1 : Nat)) (List.drop (0 : Nat) (bCells l))))
                    (br (decide ((0 : Nat) + List.length l ≤ (16777216 : Nat)))
                     ((Value.int IntKind.i64 fl = Value.int IntKind.i64 fl) ∧
                     ((Value.int IntKind.i64 fl = Value.int IntKind.i64 fl) ∧
                     ((y.1 = ty) ∧
                     ((y.2 = st) ∧
                     ((y.3 = false) ∧
                     ((y.4 = (iand IntKind.i64 fl (4 : Int) != (0 : Int))) ∧
                     ((y.5 = false) ∧
                     (((0 : Nat) = (0 : Nat)) ∧
                     ((List.length o = (0 : Nat) + List.length l) ∧
                     ((y.6 = (0 : Int)) ∧
                     ((y.7 = (0 : Int)) ∧
                     ((y.8 = (0 : Int)) ∧
                     ((y.9 = (0 : Int)) ∧
                     ((List.length s = (0 : Nat)) ∧
                     ((sc = (0 : Int)) ∧
                     ((cd = (0 : Int)) ∧
                     ((sn = (0 : Int)) ∧
                     ((Eq (α := List Value) (bCells l) (bCells l)) ∧
                     ((Plain (bCells l)) ∧
                     ((Eq (α := List Value) (bCells o) ([] ++ List.take (List.length l * (1 : Nat)) (List.drop (0 : Nat) (bCells l)))) ∧
                     ((Plain (bCells o)) ∧
                     ((Eq (α := List Value) (gC seC s) ([])) ∧
                     True))))))))))))))))))))))
                     False)
                    False)
                   False)
                  ((y.1 = ty) ∧
                  ((y.2 = st) ∧
                  ((y.3 = false) ∧
                  ((y.4 = false) ∧
                  ((y.5 = false) ∧
                  ((List.length o = (0 : Nat)) ∧
                  ((y.6 = (0 : Int)) ∧
                  ((y.7 = (0 : Int)) ∧
                  ((y.8 = (0 : Int)) ∧
                  ((y.9 = (0 : Int)) ∧
                  ((List.length s = (0 : Nat)) ∧
                  ((sc = (0 : Int)) ∧
                  ((cd = (0 : Int)) ∧
                  ((sn = (0 : Int)) ∧
                  ((Eq (α := List Value) (bCells l) (bCells l)) ∧
                  ((Plain (bCells l)) ∧
                  ((Eq (α := List Value) (bCells o) ([])) ∧
                  ((Eq (α := List Value) (gC seC s) ([])) ∧
                  True))))))))))))))))))))))))))))))))))) := by kernel_rfl
theorem tRsh_ok : ∀ x ∈ tRsh, EntOk Try.prog x := all_cons eRst_ok (all_cons eLong_ok (all_cons eFour_ok (all_cons eAll_ok (all_cons eRrt_ok (all_nil)))))
theorem rshR (ty fl st : Int) (l : List UInt8) (h1 : rightB ty fl st l.length = true) (h2 : ¬ ty > 9) : shO ty fl st l = if misB ty st then badO 2 1 0 else tyO ty fl st l := by
  unfold shO; rw [if_neg (by rw [h1]; simp; omega)]
theorem dCd0 {fl : Int} {l : List UInt8} (h : dSc fl l = 0) : dCd fl l = 0 := by
  unfold dSc at h; unfold dCd
  split at h
  · split at h
    · omega
    · rename_i h1 h2; rw [if_pos h1, if_neg h2]
  · omega
theorem hCd0 {fl st : Int} {l : List UInt8} (h : hSc fl st l = 0) : hCd fl st l = 0 := by
  unfold hSc at h; unfold hCd; grind
theorem stCd0 {fl : Int} {l : List UInt8} (h : stSc fl l = 0) : stCd fl l = 0 := by
  unfold stSc at h; unfold stCd; grind
theorem Rsh_con (ty fl st : Int) (l : List UInt8) (hl : l.length ≤ 16777216) : Con Try.prog 15 [.agg ⟨frCy ty fl st 0 l.length⟩] [bRo l] (.tuple #[.agg ⟨ptCy (shO ty fl st l).y 1 (shO ty fl st l).b.length 2 (shO ty fl st l).se.length⟩, .agg ⟨[.int .i64 (shO ty fl st l).sc, .int .i64 (shO ty fl st l).cd, .int .i64 (shO ty fl st l).sn]⟩]) [bRo l, bOwn (shO ty fl st l).b, gOwn seC (shO ty fl st l).se] := by
  refine con_vc (E := EtRsh) mixed (calls_envT tRsh_ok) (lok_envT _ _) (M := noM) lm_none (Rsh_vc _ ty fl st _ _ _ l _ _) ?_
  simp only [ofNat_eq, toNat_cast, Nat.zero_add, Nat.add_zero, Nat.mul_one, List.drop_zero, bCells_len, bCells_drop, bCells_take, bCells_app, bCells_one, bCells_plain, List.length_replicate, List.length_append, List.length_take, List.length_drop, List.take_length, and_true, true_and, and_self, decide_true, List.length_nil, List.length_cons, Nat.sub_zero, dB_mk, dB_ro, List.take_zero, lI, lE, lF, lZ, lBn, lBc, lCs, lScR, lCdR, lSnR, rsI, rsB, rsN, rsC, stScR, stCdR, low4R, num4R, dB_mk, isB_eq, bCells_plain, sePl, Nat.le_refl, hl, true_and, and_true]
  refine br_intro (fun h1 => ?_) (fun h1 => br_intro (fun h2 => ?_) (fun h2 => ?_))
  · have h1 : rightB ty fl st l.length = false := by simpa using h1
    rw [show shO ty fl st l = okO (y0 ty st) [] [] by unfold shO; rw [if_pos (.inl h1)]]; simp [okO, y0, bCells, gC]
  · have h2 : ty > 9 := of_decide_eq_true h2
    rw [show shO ty fl st l = okO (y0 ty st) [] [] by unfold shO; rw [if_pos (.inr h2)]]; simp [okO, y0, bCells, gC]
  have h1 : rightB ty fl st l.length = true := by simpa using h1
  have h2 : ¬ ty > 9 := of_decide_eq_false h2
  have h0 : 0 ≤ ty := by unfold rightB at h1; simp at h1; omega
  have hs := rshR ty fl st l h1 h2
  have b1 : (iand .i64 fl 1 != 0) = bit fl 1 := rfl
  have b4 : (iand .i64 fl 4 != 0) = bit fl 4 := rfl
  generalize ho : shO ty fl st l = o
  rw [hs] at ho
  clear hs
  have hy : ty = 0 ∨ ty = 1 ∨ ty = 2 ∨ ty = 3 ∨ ty = 4 ∨ ty = 5 ∨ ty = 6 ∨ ty = 7 ∨ ty = 8 ∨ ty = 9 := by omega
  rcases hy with rfl | rfl | rfl | rfl | rfl | rfl | rfl | rfl | rfl | rfl
  all_goals simp only [Int.reduceBEq, Int.reduceBNe, Bool.not_false, Bool.not_true, br_tt0, br_ff0, b1, b4]
  all_goals by_cases z : st = 0
  all_goals have zb : (st == 0) = decide (st = 0) := rfl
  all_goals have zn : (st != 0) = !decide (st = 0) := rfl
  · subst z; subst ho; simp [br_tt0, br_ff0, misB, ownT, tyO, pickO, okO, badO, y0, bCells, gC]
  · have hm : misB 0 st = false := by simp [misB, ownT, z]
    rw [hm, if_neg (by simp)] at ho
    by_cases k : dSc fl l = 0
    · have k2 : dCd fl l = 0 := dCd0 k
      subst ho; simp [br_tt0, br_ff0, misB, ownT, tyO, pickO, okO, badO, y0, bCells, gC, z, zb, zn, k, k2, Ty01, lSc, lCd, lSn, lBo, okI, okZ]
    · subst ho; simp [br_tt0, br_ff0, misB, ownT, tyO, pickO, okO, badO, y0, bCells, gC, z, zb, zn, k, Ty01, lSc, lCd, lSn, lBo, okI, okZ, dBo]
  · subst z; subst ho; simp [br_tt0, br_ff0, misB, ownT, tyO, pickO, okO, badO, y0, bCells, gC]
  · have hm : misB 1 st = false := by simp [misB, ownT, z]
    rw [hm, if_neg (by simp)] at ho
    by_cases k : hSc fl st l = 0
    · have k2 : hCd fl st l = 0 := hCd0 k
      subst ho; simp [br_tt0, br_ff0, misB, ownT, tyO, pickO, okO, badO, y0, bCells, gC, z, zb, zn, k, k2, Ty01, lSc, lCd, lSn, lBo, okI, okZ, hSn]
    · subst ho; simp [br_tt0, br_ff0, misB, ownT, tyO, pickO, okO, badO, y0, bCells, gC, z, zb, zn, k, Ty01, lSc, lCd, lSn, lBo, okI, okZ, hBo]
  · subst z; subst ho; simp [br_tt0, br_ff0, misB, ownT, tyO, pickO, okO, badO, y0, bCells, gC]
  · have hm : misB 2 st = false := by simp [misB, ownT, z]
    rw [hm, if_neg (by simp)] at ho
    by_cases k : l.length = 5
    · by_cases j : (low4 l : Int) = st
      all_goals have jb : ((low4 l : Int) == st) = decide ((low4 l : Int) = st) := rfl
      · subst ho; simp [br_tt0, br_ff0, misB, ownT, tyO, pickO, okO, badO, y0, bCells, gC, z, zb, zn, k, j, jb, pSc, pCd, pSn]
      · subst ho; simp [br_tt0, br_ff0, misB, ownT, tyO, pickO, okO, badO, y0, bCells, gC, z, zb, zn, k, j, jb, pSc, pCd, pSn]
    · have k' : ((l.length : Int) != 5) = true := by simp; omega
      subst ho; simp [br_tt0, br_ff0, misB, ownT, tyO, pickO, okO, badO, y0, bCells, gC, z, zb, zn, k, k', pSc, pCd, pSn]
  · subst z; subst ho; simp [br_tt0, br_ff0, misB, ownT, tyO, pickO, okO, badO, y0, bCells, gC]
  · have hm : misB 3 st = false := by simp [misB, ownT, z]
    rw [hm, if_neg (by simp)] at ho
    by_cases k : l.length = 4
    · subst ho; simp [br_tt0, br_ff0, misB, ownT, tyO, pickO, okO, badO, y0, bCells, gC, z, zb, zn, k, lenE, reCo]
    · have k' : ((l.length : Int) != 4) = true := by simp; omega
      subst ho; simp [br_tt0, br_ff0, misB, ownT, tyO, pickO, okO, badO, y0, bCells, gC, z, zb, zn, k, k', lenE, reCo]
  · have hm : misB 4 st = false := by simp [misB, ownT, z]
    rw [hm, if_neg (by simp)] at ho
    by_cases k : stSc fl l = 0
    · have k2 : stCd fl l = 0 := stCd0 k
      subst ho; simp [br_tt0, br_ff0, misB, ownT, tyO, pickO, okO, badO, y0, bCells, gC, z, zb, zn, k, k2, okI, okZ, okL]
    · subst ho; simp [br_tt0, br_ff0, misB, ownT, tyO, pickO, okO, badO, y0, bCells, gC, z, zb, zn, k, okI, okZ, okL]
  · subst ho; simp [br_tt0, br_ff0, misB, ownT, tyO, pickO, okO, badO, y0, bCells, gC, z, zb, zn]
  · subst ho; simp [br_tt0, br_ff0, misB, ownT, tyO, pickO, okO, badO, y0, bCells, gC, z, zb, zn]
  · subst ho; simp [br_tt0, br_ff0, misB, ownT, tyO, pickO, okO, badO, y0, bCells, gC, z, zb, zn]
  · have hm : misB 6 st = false := by simp [misB, ownT, z]
    rw [hm, if_neg (by simp)] at ho
    by_cases k : l.length = 8
    · subst ho; simp [br_tt0, br_ff0, misB, ownT, tyO, pickO, okO, badO, y0, bCells, gC, z, zb, zn, k, lenE, piAk, piBo]
    · have k' : ((l.length : Int) != 8) = true := by simp; omega
      subst ho; simp [br_tt0, br_ff0, misB, ownT, tyO, pickO, okO, badO, y0, bCells, gC, z, zb, zn, k, k', lenE, piAk, piBo]
  · subst ho; simp [br_tt0, br_ff0, misB, ownT, tyO, pickO, okO, badO, y0, bCells, gC, z, zb, zn]
  · have hm : misB 7 st = false := by simp [misB, ownT, z]
    rw [hm, if_neg (by simp)] at ho
    have tk4 : List.take (l.length - 4) (l.drop 4) = l.drop 4 := List.take_of_length_le (by simp)
    have tk8 : List.take (l.length - 8) (l.drop 8) = l.drop 8 := List.take_of_length_le (by simp)
    rw [tk4, tk8]
    by_cases k : 8 ≤ l.length
    · refine br_nb (by simp [z]) ?_
      refine br_nd (by omega) ⟨by omega, ?_⟩
      refine br_dec (by omega) ⟨⟨by omega, isB_mk _ _ (by simp), by omega, by omega⟩, ?_⟩
      simp (disch := omega) only [brT]
      subst ho; simp [br_tt0, br_ff0, misB, ownT, tyO, pickO, okO, badO, y0, bCells, gC, z, zb, zn, k, lenG, goCo, goLa, goBo]
    · refine br_nb (by simp [z]) ?_
      refine br_dec (by omega) ?_
      subst ho; simp [br_tt0, br_ff0, misB, ownT, tyO, pickO, okO, badO, y0, bCells, gC, z, zb, zn, k, lenG, goCo, goLa, goBo]
  · subst ho; simp [br_tt0, br_ff0, misB, ownT, tyO, pickO, okO, badO, y0, bCells, gC, z, zb, zn]
  · have hm : misB 8 st = false := by simp [misB, ownT, z]
    rw [hm, if_neg (by simp)] at ho
    by_cases k : l.length = 4
    · by_cases j : low4 l = 0
      · subst ho; simp [br_tt0, br_ff0, misB, ownT, tyO, pickO, okO, badO, y0, bCells, gC, z, zb, zn, k, j, wSc, wCd, wSn]
      · have j' : 0 < low4 l := by omega
        have jb : ((low4 l : Int) == 0) = false := by simp [j]
        subst ho; simp [br_tt0, br_ff0, misB, ownT, tyO, pickO, okO, badO, y0, bCells, gC, z, zb, zn, k, j, j', jb, wSc, wCd, wSn, wMo]
    · have k' : ((l.length : Int) != 4) = true := by simp; omega
      subst ho; simp [br_tt0, br_ff0, misB, ownT, tyO, pickO, okO, badO, y0, bCells, gC, z, zb, zn, k, k', wSc, wCd, wSn]
  · have hm : misB 8 st = false := by simp [misB, ownT, z]
    rw [hm, if_neg (by simp)] at ho
    by_cases k : l.length = 4
    · by_cases j : low4 l = 0
      · subst ho; simp [br_tt0, br_ff0, misB, ownT, tyO, pickO, okO, badO, y0, bCells, gC, z, zb, zn, k, j, wSc, wCd, wSn]
      · have j' : 0 < low4 l := by omega
        have jb : ((low4 l : Int) == 0) = false := by simp [j]
        subst ho; simp [br_tt0, br_ff0, misB, ownT, tyO, pickO, okO, badO, y0, bCells, gC, z, zb, zn, k, j, j', jb, wSc, wCd, wSn, wMo]
    · have k' : ((l.length : Int) != 4) = true := by simp; omega
      subst ho; simp [br_tt0, br_ff0, misB, ownT, tyO, pickO, okO, badO, y0, bCells, gC, z, zb, zn, k, k', wSc, wCd, wSn]
  · subst z; subst ho; simp [br_tt0, br_ff0, misB, ownT, tyO, pickO, okO, badO, y0, bCells, gC]
  · have hm : misB 9 st = false := by simp [misB, ownT, z]
    rw [hm, if_neg (by simp)] at ho
    subst ho; simp [br_tt0, br_ff0, misB, ownT, tyO, pickO, okO, badO, y0, bCells, gC, z, zb, zn]
end Go.Proofs.Ytagahikocoggcaa.sh
