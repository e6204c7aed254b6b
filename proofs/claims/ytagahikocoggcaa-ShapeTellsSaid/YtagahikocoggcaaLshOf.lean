/- What a frame says, or which error it is. -/
import Derived.Test.YtagahikocoggcaaSz9
import Derived.Test.YtagahikocoggcaaRows
import Derived.Test.YtagahikocoggcaaLshS
set_option maxRecDepth 20000
set_option linter.unusedSimpArgs false
set_option linter.unusedVariables false
namespace Go.Proofs.Ytagahikocoggcaa.sh
open Go Go.Ev Go.Sy Go.RowKit Go.Proofs.Ytagahikocoggcaa.gl
def stScR (fl : Int) (r : Row) : Int := stSc fl (dB r)
def stCdR (fl : Int) (r : Row) : Int := stCd fl (dB r)
def stN (fl : Int) (r : Row) : Nat := (stSe fl (dB r)).length
def stC (fl : Int) (r : Row) : List Value := gC seC (stSe fl (dB r))
def eSet : EntM := (35, fun a r => match a, r with
  | [.pointer (some ⟨0, 0, none⟩), .agg ⟨[.int .i64 ty, .int .i64 fl, .int .i64 st, .slice (some ⟨1, 0, none⟩) n 1]⟩], [⟨[.int .i64 t2, .int .i64 s2, .bool e, .bool f, .bool ak, .slice none 0 0, .int .i64 co, .int .i64 la, .int .i64 mo, .int .i64 cs, .slice none 0 0], false, .cells false⟩, r1] =>
    some (IsB r1 n ∧ n ≤ 16777216, .agg ⟨[.int .i64 (stScR fl r1), .int .i64 (stCdR fl r1), .int .i64 0]⟩, 3, [(0, ⟨[.int .i64 t2, .int .i64 s2, .bool e, .bool f, .bool (bit fl 1), .slice none 0 0, .int .i64 co, .int .i64 la, .int .i64 mo, .int .i64 cs, .slice (some ⟨2, 0, none⟩) (stN fl r1) 2], false, .cells false⟩), (2, ⟨stC fl r1, false, .cells true⟩)])
  | _, _ => none)
def rightB (ty fl st : Int) (n : Nat) : Bool := decide (0 ≤ ty ∧ ty ≤ 255 ∧ 0 ≤ fl ∧ fl ≤ 255 ∧ 0 ≤ st ∧ st ≤ 2147483647 ∧ n ≤ 16777215)
def ownT (ty : Int) : Bool := decide (ty = 4 ∨ ty = 6 ∨ ty = 7)
def misB (ty st : Int) : Bool := decide (ty = 5 ∨ (ownT ty = true ∧ st ≠ 0) ∨ (ownT ty = false ∧ ty ≠ 8 ∧ st = 0))
noncomputable def eRight : EntM := entC 19 fun a r => match a, r with
  | [.agg ⟨[.int .i64 ty, .int .i64 fl, .int .i64 st, .slice (some ⟨0, 0, none⟩) n 1]⟩], [r0] => some (IsB r0 n, .bool (rightB ty fl st n), [])
  | _, _ => none
noncomputable def eMis : EntM := entC 20 fun a r => match a, r with
  | [.agg ⟨[.int .i64 ty, .int .i64 fl, .int .i64 st, .slice (some ⟨0, 0, none⟩) n 1]⟩], [r0] => some (IsB r0 n, .bool (misB ty st), [])
  | _, _ => none
noncomputable def tOf : List EntM := [eSet, eRight, eMis, eDat, eHea, eRes, ePin, eGoA, eWin, ePri]
noncomputable abbrev EtOf : Env := envT Try.prog tOf
structure ShO where
  y : PtY
  b : List UInt8
  se : List Se
  sc : Int
  cd : Int
  sn : Int
def y0 (ty st : Int) : PtY := ⟨ty, st, false, false, false, 0, 0, 0, 0⟩
def okO (y : PtY) (b : List UInt8) (se : List Se) : ShO := ⟨y, b, se, 0, 0, 0⟩
def badO (sc cd sn : Int) : ShO := ⟨⟨0, 0, false, false, false, 0, 0, 0, 0⟩, [], [], sc, cd, sn⟩
def pickO (sc cd sn : Int) (o : ShO) : ShO := if sc = 0 then o else badO sc cd sn
def tyO (ty fl st : Int) (l : List UInt8) : ShO :=
  if ty = 0 then pickO (dSc fl l) (dCd fl l) 0 (okO ⟨ty, st, bit fl 1, false, false, 0, 0, 0, (l.length : Nat)⟩ (dBo fl l) [])
  else if ty = 1 then pickO (hSc fl st l) (hCd fl st l) (hSn fl st l) (okO ⟨ty, st, bit fl 1, bit fl 4, false, 0, 0, 0, 0⟩ (hBo fl st l) [])
  else if ty = 2 then pickO (pSc st l) (pCd st l) (pSn st l) (okO (y0 ty st) [] [])
  else if ty = 3 then pickO (lenE 4 l 2) (lenE 4 l 6) 0 (okO ⟨ty, st, false, false, false, reCo 0 l, 0, 0, 0⟩ [] [])
  else if ty = 4 then pickO (stSc fl l) (stCd fl l) 0 (okO ⟨ty, st, false, false, bit fl 1, 0, 0, 0, 0⟩ [] (stSe fl l))
  else if ty = 6 then pickO (lenE 8 l 2) (lenE 8 l 6) 0 (okO ⟨ty, st, false, false, piAk false fl l, 0, 0, 0, 0⟩ (piBo l) [])
  else if ty = 7 then pickO (lenG 8 l 2) (lenG 8 l 6) 0 (okO ⟨ty, st, false, false, false, goCo 0 l, goLa 0 l, 0, 0⟩ (goBo l) [])
  else if ty = 8 then pickO (wSc st l) (wCd st l) (wSn st l) (okO ⟨ty, st, false, false, false, 0, 0, wMo 0 l, 0⟩ [] [])
  else okO ⟨ty, st, false, bit fl 4, false, 0, 0, 0, 0⟩ l []
def shO (ty fl st : Int) (l : List UInt8) : ShO :=
  if rightB ty fl st l.length = false ∨ ty > 9 then okO (y0 ty st) [] [] else if misB ty st then badO 2 1 0 else tyO ty fl st l
theorem eSet_ok : EntOk Try.prog eSet := by
  intro a rows p v n' rl he hp
  simp only [eSet] at he
  split at he
  · simp only [Option.some.injEq, Prod.mk.injEq] at he
    obtain ⟨rfl, rfl, rfl, rfl⟩ := he
    obtain ⟨⟨l, rfl, rfl⟩, h1⟩ := hp
    simp only [stScR, stCdR, stN, stC, dB_ro]
    exact Set_con ⟨_, _, _, _, _, _, _, _, _⟩ _ _ _ l h1
  · simp at he
theorem Of_vc (y : PtY) (ty fl st sc cd sn : Int) (l o : List UInt8) (s : List Se) : mcall EtOf noM 60 10 [.agg ⟨frCy ty fl st 0 l.length⟩] ⟨mkR (nums 0 [bRo l]), 1⟩ (retIs 1 (.tuple #[.agg ⟨ptCy y 1 o.length 2 s.length⟩, .agg ⟨[.int .i64 sc, .int .i64 cd, .int .i64 sn]⟩]) [bRo l, bOwn o, gOwn seC s]) =
  (((((True ∧ (True ∧ (True ∧ (((0 : Nat) + List.length l * (1 : Nat) ≤ List.length (bCells l) ∧ Plain (List.take (List.length l * (1 : Nat)) (List.drop (0 : Nat) (bCells l)))) ∧ True)))) ∧ True) ∧ ((True ∧ True) ∧ (True ∧ IsB (Row.mk (List.take (List.length l * (1 : Nat)) (List.drop (0 : Nat) (bCells l))) true (Ob.cells true)) (List.length l))))) ∧
  (br (!rightB ty fl st (List.length l))
   ((y.1 = ty) ∧
   ((y.2 = st) ∧
   ((y.3 = false) ∧
   ((y.4 = false) ∧
   ((y.5 = false) ∧
   ((List.length o = (0 : Nat)) ∧
   ((y.6 = (0 : Int)) ∧
   ((y.7 = (0 : Int)) ∧
   ((y.8 = (0 : Int)) ∧
   ((y.9 = (0 : Int)) ∧
   ((List.length s = (0 : Nat)) ∧
   ((sc = (0 : Int)) ∧
   ((cd = (0 : Int)) ∧
   ((sn = (0 : Int)) ∧
   ((Eq (α := List Value) (bCells l) (bCells l)) ∧
   ((Plain (bCells l)) ∧
   ((Eq (α := List Value) (bCells o) ([])) ∧
   ((Eq (α := List Value) (gC seC s) ([])) ∧
   True))))))))))))))))))
   (br (decide (ty > (9 : Int)))
    ((y.1 = ty) ∧
    ((y.2 = st) ∧
    ((y.3 = false) ∧
    ((y.4 = false) ∧
    ((y.5 = false) ∧
    ((List.length o = (0 : Nat)) ∧
    ((y.6 = (0 : Int)) ∧
    ((y.7 = (0 : Int)) ∧
    ((y.8 = (0 : Int)) ∧
    ((y.9 = (0 : Int)) ∧
    ((List.length s = (0 : Nat)) ∧
    ((sc = (0 : Int)) ∧
    ((cd = (0 : Int)) ∧
    ((sn = (0 : Int)) ∧
    ((Eq (α := List Value) (bCells l) (bCells l)) ∧
    ((Plain (bCells l)) ∧
    ((Eq (α := List Value) (bCells o) ([])) ∧
    ((Eq (α := List Value) (gC seC s) ([])) ∧
    True))))))))))))))))))
    (((((True ∧ (True ∧ (True ∧ (((0 : Nat) + List.length l * (1 : Nat) ≤ List.length (bCells l) ∧ Plain (List.take (List.length l * (1 : Nat)) (List.drop (0 : Nat) (bCells l)))) ∧ True)))) ∧ True) ∧ ((True ∧ True) ∧ (True ∧ IsB (Row.mk (List.take (List.length l * (1 : Nat)) (List.drop (0 : Nat) (bCells l))) true (Ob.cells true)) (List.length l))))) ∧
    (br (misB ty st)
     ((y.1 = (0 : Int)) ∧
     ((y.2 = (0 : Int)) ∧
     ((y.3 = false) ∧
     ((y.4 = false) ∧
     ((y.5 = false) ∧
     ((List.length o = (0 : Nat)) ∧
     ((y.6 = (0 : Int)) ∧
     ((y.7 = (0 : Int)) ∧
     ((y.8 = (0 : Int)) ∧
     ((y.9 = (0 : Int)) ∧
     ((List.length s = (0 : Nat)) ∧
     ((sc = (2 : Int)) ∧
     ((cd = (1 : Int)) ∧
     ((sn = (0 : Int)) ∧
     ((Eq (α := List Value) (bCells l) (bCells l)) ∧
     ((Plain (bCells l)) ∧
     ((Eq (α := List Value) (bCells o) ([])) ∧
     ((Eq (α := List Value) (gC seC s) ([])) ∧
     True))))))))))))))))))
     (br (ty == (0 : Int))
      ((((True ∧ ((True ∧ (True ∧ (True ∧ (((0 : Nat) + List.length l * (1 : Nat) ≤ List.length (bCells l) ∧ Plain (List.take (List.length l * (1 : Nat)) (List.drop (0 : Nat) (bCells l)))) ∧ True)))) ∧ True)) ∧ (((True ∧ (True ∧ (True ∧ (True ∧ (True ∧ (True ∧ (True ∧ (True ∧ (True ∧ (True ∧ (True ∧ True))))))))))) ∧ (True ∧ True)) ∧ ((Plain (dBc fl (Row.mk (List.take (List.length l * (1 : Nat)) (List.drop (0 : Nat) (bCells l))) true (Ob.cells true))) ∧ True) ∧ (IsB (Row.mk (List.take (List.length l * (1 : Nat)) (List.drop (0 : Nat) (bCells l))) true (Ob.cells true)) (List.length l) ∧ List.length l ≤ (16777216 : Nat)))))) ∧
      (br (dScR fl (Row.mk (List.take (List.length l * (1 : Nat)) (List.drop (0 : Nat) (bCells l))) true (Ob.cells true)) != (0 : Int))
       ((Value.agg (Array.mk [Value.int IntKind.i64 (dScR fl (Row.mk (List.take (List.length l * (1 : Nat)) (List.drop (0 : Nat) (bCells l))) true (Ob.cells true))), Value.int IntKind.i64 (dCdR fl (Row.mk (List.take (List.length l * (1 : Nat)) (List.drop (0 : Nat) (bCells l))) true (Ob.cells true))), Value.int IntKind.i64 (0 : Int)]) = Value.agg (Array.mk [Value.int IntKind.i64 (dScR fl (Row.mk (List.take (List.length l * (1 : Nat)) (List.drop (0 : Nat) (bCells l))) true (Ob.cells true))), Value.int IntKind.i64 (dCdR fl (Row.mk (List.take (List.length l * (1 : Nat)) (List.drop (0 : Nat) (bCells l))) true (Ob.cells true))), Value.int IntKind.i64 (0 : Int)])) ∧
       ((Value.agg (Array.mk [Value.int IntKind.i64 (dScR fl (Row.mk (List.take (List.length l * (1 : Nat)) (List.drop (0 : Nat) (bCells l))) true (Ob.cells true))), Value.int IntKind.i64 (dCdR fl (Row.mk (List.take (List.length l * (1 : Nat)) (List.drop (0 : Nat) (bCells l))) true (Ob.cells true))), Value.int IntKind.i64 (0 : Int)]) = Value.agg (Array.mk [Value.int IntKind.i64 (dScR fl (Row.mk (List.take (List.length l * (1 : Nat)) (List.drop (0 : Nat) (bCells l))) true (Ob.cells true))), Value.int IntKind.i64 (dCdR fl (Row.mk (List.take (List.length l * (1 : Nat)) (List.drop (0 : Nat) (bCells l))) true (Ob.cells true))), Value.int IntKind.i64 (0 : Int)])) ∧
       ((y.1 = (0 : Int)) ∧
       ((y.2 = (0 : Int)) ∧
       ((y.3 = false) ∧
       ((y.4 = false) ∧
       ((y.5 = false) ∧
       ((List.length o = (0 : Nat)) ∧
       ((y.6 = (0 : Int)) ∧
       ((y.7 = (0 : Int)) ∧
       ((y.8 = (0 : Int)) ∧
       ((y.9 = (0 : Int)) ∧
       ((List.length s = (0 : Nat)) ∧
       ((sc = dScR fl (Row.mk (List.take (List.length l * (1 : Nat)) (List.drop (0 : Nat) (bCells l))) true (Ob.cells true))) ∧
       ((cd = dCdR fl (Row.mk (List.take (List.length l * (1 : Nat)) (List.drop (0 : Nat) (bCells l))) true (Ob.cells true))) ∧
       ((sn = (0 : Int)) ∧
       ((Eq (α := List Value) (bCells l) (bCells l)) ∧
       ((Plain (bCells l)) ∧
       ((Eq (α := List Value) (bCells o) ([])) ∧
       ((Eq (α := List Value) (gC seC s) ([])) ∧
       True))))))))))))))))))))
       ((y.1 = ty) ∧
       ((y.2 = st) ∧
       ((y.3 = dE false fl (Row.mk (List.take (List.length l * (1 : Nat)) (List.drop (0 : Nat) (bCells l))) true (Ob.cells true))) ∧
       ((y.4 = false) ∧
       ((y.5 = false) ∧
       (((0 : Nat) = (0 : Nat)) ∧
       ((List.length o = dBn fl (Row.mk (List.take (List.length l * (1 : Nat)) (List.drop (0 : Nat) (bCells l))) true (Ob.cells true))) ∧
       ((y.6 = (0 : Int)) ∧
       ((y.7 = (0 : Int)) ∧
       ((y.8 = (0 : Int)) ∧
       ((y.9 = dCs (0 : Int) fl (Row.mk (List.take (List.length l * (1 : Nat)) (List.drop (0 : Nat) (bCells l))) true (Ob.cells true))) ∧
       ((List.length s = (0 : Nat)) ∧
       ((sc = (0 : Int)) ∧
       ((cd = (0 : Int)) ∧
       ((sn = (0 : Int)) ∧
       ((Eq (α := List Value) (bCells l) (bCells l)) ∧
       ((Plain (bCells l)) ∧
       ((Eq (α := List Value) (bCells o) (dBc fl (Row.mk (List.take (List.length l * (1 : Nat)) (List.drop (0 : Nat) (bCells l))) true (Ob.cells true)))) ∧
       ((Plain (bCells o)) ∧
       ((Eq (α := List Value) (gC seC s) ([])) ∧
       True))))))))))))))))))))))
      (br (ty == (1 : Int))
       ((((True ∧ ((True ∧ (True ∧ (True ∧ (((0 : Nat) + List.length l * (1 : Nat) ≤ List.length (bCells l) ∧ Plain (List.take (List.length l * (1 : Nat)) (List.drop (0 : Nat) (bCells l)))) ∧ True)))) ∧ True)) ∧ (((True ∧ (True ∧ (True ∧ (True ∧ (True ∧ (True ∧ (True ∧ (True ∧ (True ∧ (True ∧ (True ∧ True))))))))))) ∧ (True ∧ True)) ∧ ((Plain (hBc fl st (Row.mk (List.take (List.length l * (1 : Nat)) (List.drop (0 : Nat) (bCells l))) true (Ob.cells true))) ∧ True) ∧ (IsB (Row.mk (List.take (List.length l * (1 : Nat)) (List.drop (0 : Nat) (bCells l))) true (Ob.cells true)) (List.length l) ∧ List.length l ≤ (16777216 : Nat)))))) ∧
       (br (hScR fl st (Row.mk (List.take (List.length l * (1 : Nat)) (List.drop (0 : Nat) (bCells l))) true (Ob.cells true)) != (0 : Int))
        ((Value.agg (Array.mk [Value.int IntKind.i64 (hScR fl st (Row.mk (List.take (List.length l * (1 : Nat)) (List.drop (0 : Nat) (bCells l))) true (Ob.cells true))), Value.int IntKind.i64 (hCdR fl st (Row.mk (List.take (List.length l * (1 : Nat)) (List.drop (0 : Nat) (bCells l))) true (Ob.cells true))), Value.int IntKind.i64 (hSnR fl st (Row.mk (List.take (List.length l * (1 : Nat)) (List.drop (0 : Nat) (bCells l))) true (Ob.cells true)))]) = Value.agg (Array.mk [Value.int IntKind.i64 (hScR fl st (Row.mk (List.take (List.length l * (1 : Nat)) (List.drop (0 : Nat) (bCells l))) true (Ob.cells true))), Value.int IntKind.i64 (hCdR fl st (Row.mk (List.take (List.length l * (1 : Nat)) (List.drop (0 : Nat) (bCells l))) true (Ob.cells true))), Value.int IntKind.i64 (hSnR fl st (Row.mk (List.take (List.length l * (1 : Nat)) (List.drop (0 : Nat) (bCells l))) true (Ob.cells true)))])) ∧
        ((Value.agg (Array.mk [Value.int IntKind.i64 (hScR fl st (Row.mk (List.take (List.length l * (1 : Nat)) (List.drop (0 : Nat) (bCells l))) true (Ob.cells true))), Value.int IntKind.i64 (hCdR fl st (Row.mk (List.take (List.length l * (1 : Nat)) (List.drop (0 : Nat) (bCells l))) true (Ob.cells true))), Value.int IntKind.i64 (hSnR fl st (Row.mk (List.take (List.length l * (1 : Nat)) (List.drop (0 : Nat) (bCells l))) true (Ob.cells true)))]) = Value.agg (Array.mk [Value.int IntKind.i64 (hScR fl st (Row.mk (List.take (List.length l * (1 : Nat)) (List.drop (0 : Nat) (bCells l))) true (Ob.cells true))), Value.int IntKind.i64 (hCdR fl st (Row.mk (List.take (List.length l * (1 : Nat)) (List.drop (0 : Nat) (bCells l))) true (Ob.cells true))), Value.int IntKind.i64 (hSnR fl st (Row.mk (List.take (List.length l * (1 : Nat)) (List.drop (0 : Nat) (bCells l))) true (Ob.cells true)))])) ∧
        ((y.1 = (0 : Int)) ∧
        ((y.2 = (0 : Int)) ∧
        ((y.3 = false) ∧
        ((y.4 = false) ∧
        ((y.5 = false) ∧
        ((List.length o = (0 : Nat)) ∧
        ((y.6 = (0 : Int)) ∧
        ((y.7 = (0 : Int)) ∧
        ((y.8 = (0 : Int)) ∧
        ((y.9 = (0 : Int)) ∧
        ((List.length s = (0 : Nat)) ∧
        ((sc = hScR fl st (Row.mk (List.take (List.length l * (1 : Nat)) (List.drop (0 : Nat) (bCells l))) true (Ob.cells true))) ∧
        ((cd = hCdR fl st (Row.mk (List.take (List.length l * (1 : Nat)) (List.drop (0 : Nat) (bCells l))) true (Ob.cells true))) ∧
        ((sn = hSnR fl st (Row.mk (List.take (List.length l * (1 : Nat)) (List.drop (0 : Nat) (bCells l))) true (Ob.cells true))) ∧
        ((Eq (α := List Value) (bCells l) (bCells l)) ∧
        ((Plain (bCells l)) ∧
        ((Eq (α := List Value) (bCells o) ([])) ∧
        ((Eq (α := List Value) (gC seC s) ([])) ∧
        True))))))))))))))))))))
        ((y.1 = ty) ∧
        ((y.2 = st) ∧
        ((y.3 = hE false (1 : Int) fl st (Row.mk (List.take (List.length l * (1 : Nat)) (List.drop (0 : Nat) (bCells l))) true (Ob.cells true))) ∧
        ((y.4 = hE false (4 : Int) fl st (Row.mk (List.take (List.length l * (1 : Nat)) (List.drop (0 : Nat) (bCells l))) true (Ob.cells true))) ∧
        ((y.5 = false) ∧
        (((0 : Nat) = (0 : Nat)) ∧
        ((List.length o = hBn fl st (Row.mk (List.take (List.length l * (1 : Nat)) (List.drop (0 : Nat) (bCells l))) true (Ob.cells true))) ∧
        ((y.6 = (0 : Int)) ∧
        ((y.7 = (0 : Int)) ∧
        ((y.8 = (0 : Int)) ∧
        ((y.9 = (0 : Int)) ∧
        ((List.length s = (0 : Nat)) ∧
        ((sc = (0 : Int)) ∧
        ((cd = (0 : Int)) ∧
        ((sn = (0 : Int)) ∧
        ((Eq (α := List Value) (bCells l) (bCells l)) ∧
        ((Plain (bCells l)) ∧
        ((Eq (α := List Value) (bCells o) (hBc fl st (Row.mk (List.take (List.length l * (1 : Nat)) (List.drop (0 : Nat) (bCells l))) true (Ob.cells true)))) ∧
        ((Plain (bCells o)) ∧
        ((Eq (α := List Value) (gC seC s) ([])) ∧
        True))))))))))))))))))))))
       (br (ty == (2 : Int))
        (((((True ∧ (True ∧ (True ∧ (((0 : Nat) + List.length l * (1 : Nat) ≤ List.length (bCells l) ∧ Plain (List.take (List.length l * (1 : Nat)) (List.drop (0 : Nat) (bCells l)))) ∧ True)))) ∧ True) ∧ ((True ∧ True) ∧ (True ∧ (IsB (Row.mk (List.take (List.length l * (1 : Nat)) (List.drop (0 : Nat) (bCells l))) true (Ob.cells true)) (List.length l) ∧ List.length l ≤ (16777216 : Nat)))))) ∧
        (br (pScR st (Row.mk (List.take (List.length l * (1 : Nat)) (List.drop (0 : Nat) (bCells l))) true (Ob.cells true)) != (0 : Int))
         ((Value.agg (Array.mk [Value.int IntKind.i64 (pScR st (Row.mk (List.take (List.length l * (1 : Nat)) (List.drop (0 : Nat) (bCells l))) true (Ob.cells true))), Value.int IntKind.i64 (pCdR st (Row.mk (List.take (List.length l * (1 : Nat)) (List.drop (0 : Nat) (bCells l))) true (Ob.cells true))), Value.int IntKind.i64 (pSnR st (Row.mk (List.take (List.length l * (1 : Nat)) (List.drop (0 : Nat) (bCells l))) true (Ob.cells true)))]) = Value.agg (Array.mk [Value.int IntKind.i64 (pScR st (Row.mk (List.take (List.length l * (1 : Nat)) (List.drop (0 : Nat) (bCells l))) true (Ob.cells true))), Value.int IntKind.i64 (pCdR st (Row.mk (List.take (List.length l * (1 : Nat)) (List.drop (0 : Nat) (bCells l))) true (Ob.cells true))), Value.int IntKind.i64 (pSnR st (Row.mk (List.take (List.length l * (1 : Nat)) (List.drop (0 : Nat) (bCells l))) true (Ob.cells true)))])) ∧
         ((Value.agg (Array.mk [Value.int IntKind.i64 (pScR st (Row.mk (List.take (List.length l * (1 : Nat)) (List.drop (0 : Nat) (bCells l))) true (Ob.cells true))), Value.int IntKind.i64 (pCdR st (Row.mk (List.take (List.length l * (1 : Nat)) (List.drop (0 : Nat) (bCells l))) true (Ob.cells true))), Value.int IntKind.i64 (pSnR st (Row.mk (List.take (List.length l * (1 : Nat)) (List.drop (0 : Nat) (bCells l))) true (Ob.cells true)))]) = Value.agg (Array.mk [Value.int IntKind.i64 (pScR st (Row.mk (List.take (List.length l * (1 : Nat)) (List.drop (0 : Nat) (bCells l))) true (Ob.cells true))), Value.int IntKind.i64 (pCdR st (Row.mk (List.take (List.length l * (1 : Nat)) (List.drop (0 : Nat) (bCells l))) true (Ob.cells true))), Value.int IntKind.i64 (pSnR st (Row.mk (List.take (List.length l * (1 : Nat)) (List.drop (0 : Nat) (bCells l))) true (Ob.cells true)))])) ∧
         ((y.1 = (0 : Int)) ∧
         ((y.2 = (0 : Int)) ∧
         ((y.3 = false) ∧
         ((y.4 = false) ∧
         ((y.5 = false) ∧
         ((List.length o = (0 : Nat)) ∧
         ((y.6 = (0 : Int)) ∧
         ((y.7 = (0 : Int)) ∧
         ((y.8 = (0 : Int)) ∧
         ((y.9 = (0 : Int)) ∧
         ((List.length s = (0 : Nat)) ∧
         ((sc = pScR st (Row.mk (List.take (List.length l * (1 : Nat)) (List.drop (0 : Nat) (bCells l))) true (Ob.cells true))) ∧
         ((cd = pCdR st (Row.mk (List.take (List.length l * (1 : Nat)) (List.drop (0 : Nat) (bCells l))) true (Ob.cells true))) ∧
         ((sn = pSnR st (Row.mk (List.take (List.length l * (1 : Nat)) (List.drop (0 : Nat) (bCells l))) true (Ob.cells true))) ∧
         ((Eq (α := List Value) (bCells l) (bCells l)) ∧
         ((Plain (bCells l)) ∧
         ((Eq (α := List Value) (bCells o) ([])) ∧
         ((Eq (α := List Value) (gC seC s) ([])) ∧
         True))))))))))))))))))))
         ((y.1 = ty) ∧
         ((y.2 = st) ∧
         ((y.3 = false) ∧
         ((y.4 = false) ∧
         ((y.5 = false) ∧
         ((List.length o = (0 : Nat)) ∧
         ((y.6 = (0 : Int)) ∧
         ((y.7 = (0 : Int)) ∧
         ((y.8 = (0 : Int)) ∧
         ((y.9 = (0 : Int)) ∧
         ((List.length s = (0 : Nat)) ∧
         ((sc = (0 : Int)) ∧
         ((cd = (0 : Int)) ∧
         ((sn = (0 : Int)) ∧
         ((Eq (α := List Value) (bCells l) (bCells l)) ∧
         ((Plain (bCells l)) ∧
         ((Eq (α := List Value) (bCells o) ([])) ∧
         ((Eq (α := List Value) (gC seC s) ([])) ∧
         True))))))))))))))))))))
        (br (ty == (3 : Int))
         ((((True ∧ ((True ∧ (True ∧ (True ∧ (((0 : Nat) + List.length l * (1 : Nat) ≤ List.length (bCells l) ∧ Plain (List.take (List.length l * (1 : Nat)) (List.drop (0 : Nat) (bCells l)))) ∧ True)))) ∧ True)) ∧ (((True ∧ (True ∧ (True ∧ (True ∧ (True ∧ (True ∧ (True ∧ (True ∧ (True ∧ (True ∧ (True ∧ True))))))))))) ∧ (True ∧ True)) ∧ (True ∧ (IsB (Row.mk (List.take (List.length l * (1 : Nat)) (List.drop (0 : Nat) (bCells l))) true (Ob.cells true)) (List.length l) ∧ List.length l ≤ (16777216 : Nat)))))) ∧
         (br (lenER (4 : Nat) (Row.mk (List.take (List.length l * (1 : Nat)) (List.drop (0 : Nat) (bCells l))) true (Ob.cells true)) (2 : Int) != (0 : Int))
          ((Value.agg (Array.mk [Value.int IntKind.i64 (lenER (4 : Nat) (Row.mk (List.take (List.length l * (1 : Nat)) (List.drop (0 : Nat) (bCells l))) true (Ob.cells true)) (2 : Int)), Value.int IntKind.i64 (lenER (4 : Nat) (Row.mk (List.take (List.length l * (1 : Nat)) (List.drop (0 : Nat) (bCells l))) true (Ob.cells true)) (6 : Int)), Value.int IntKind.i64 (0 : Int)]) = Value.agg (Array.mk [Value.int IntKind.i64 (lenER (4 : Nat) (Row.mk (List.take (List.length l * (1 : Nat)) (List.drop (0 : Nat) (bCells l))) true (Ob.cells true)) (2 : Int)), Value.int IntKind.i64 (lenER (4 : Nat) (Row.mk (List.take (List.length l * (1 : Nat)) (List.drop (0 : Nat) (bCells l))) true (Ob.cells true)) (6 : Int)), Value.int IntKind.i64 (0 : Int)])) ∧
          ((Value.agg (Array.mk [Value.int IntKind.i64 (lenER (4 : Nat) (Row.mk (List.take (List.length l * (1 : Nat)) (List.drop (0 : Nat) (bCells l))) true (Ob.cells true)) (2 : Int)), Value.int IntKind.i64 (lenER (4 : Nat) (Row.mk (List.take (List.length l * (1 : Nat)) (List.drop (0 : Nat) (bCells l))) true (Ob.cells true)) (6 : Int)), Value.int IntKind.i64 (0 : Int)]) = Value.agg (Array.mk [Value.int IntKind.i64 (lenER (4 : Nat) (Row.mk (List.take (List.length l * (1 : Nat)) (List.drop (0 : Nat) (bCells l))) true (Ob.cells true)) (2 : Int)), Value.int IntKind.i64 (lenER (4 : Nat) (Row.mk (List.take (List.length l * (1 : Nat)) (List.drop (0 : Nat) (bCells l))) true (Ob.cells true)) (6 : Int)), Value.int IntKind.i64 (0 : Int)])) ∧
          ((y.1 = (0 : Int)) ∧
          ((y.2 = (0 : Int)) ∧
          ((y.3 = false) ∧
          ((y.4 = false) ∧
          ((y.5 = false) ∧
          ((List.length o = (0 : Nat)) ∧
          ((y.6 = (0 : Int)) ∧
          ((y.7 = (0 : Int)) ∧
          ((y.8 = (0 : Int)) ∧
          ((y.9 = (0 : Int)) ∧
          ((List.length s = (0 : Nat)) ∧
          ((sc = lenER (4 : Nat) (Row.mk (List.take (List.length l * (1 : Nat)) (List.drop (0 : Nat) (bCells l))) true (Ob.cells true)) (2 : Int)) ∧
          ((cd = lenER (4 : Nat) (Row.mk (List.take (List.length l * (1 : Nat)) (List.drop (0 : Nat) (bCells l))) true (Ob.cells true)) (6 : Int)) ∧
          ((sn = (0 : Int)) ∧
          ((Eq (α := List Value) (bCells l) (bCells l)) ∧
          ((Plain (bCells l)) ∧
          ((Eq (α := List Value) (bCells o) ([])) ∧
          ((Eq (α := List Value) (gC seC s) ([])) ∧
          True))))))))))))))))))))
          ((y.1 = ty) ∧
          ((y.2 = st) ∧
          ((y.3 = false) ∧
          ((y.4 = false) ∧
          ((y.5 = false) ∧
          ((List.length o = (0 : Nat)) ∧
          ((y.6 = reCoR (0 : Int) (Row.mk (List.take (List.length l * (1 : Nat)) (List.drop (0 : Nat) (bCells l))) true (Ob.cells true))) ∧
          ((y.7 = (0 : Int)) ∧
          ((y.8 = (0 : Int)) ∧
          ((y.9 = (0 : Int)) ∧
          ((List.length s = (0 : Nat)) ∧
          ((sc = (0 : Int)) ∧
          ((cd = (0 : Int)) ∧
          ((sn = (0 : Int)) ∧
          ((Eq (α := List Value) (bCells l) (bCells l)) ∧
          ((Plain (bCells l)) ∧
          ((Eq (α := List Value) (bCells o) ([])) ∧
          ((Eq (α := List Value) (gC seC s) ([])) ∧
          True))))))))))))))))))))
         (br (ty == (4 : Int))
          ((((True ∧ ((True ∧ (True ∧ (True ∧ (((0 : Nat) + List.length l * (1 : Nat) ≤ List.length (bCells l) ∧ Plain (List.take (List.length l * (1 : Nat)) (List.drop (0 : Nat) (bCells l)))) ∧ True)))) ∧ True)) ∧ (((True ∧ (True ∧ (True ∧ (True ∧ (True ∧ (True ∧ (True ∧ (True ∧ (True ∧ (True ∧ (True ∧ True))))))))))) ∧ (True ∧ True)) ∧ ((Plain (stC fl (Row.mk (List.take (List.length l * (1 : Nat)) (List.drop (0 : Nat) (bCells l))) true (Ob.cells true))) ∧ True) ∧ (IsB (Row.mk (List.take (List.length l * (1 : Nat)) (List.drop (0 : Nat) (bCells l))) true (Ob.cells true)) (List.length l) ∧ List.length l ≤ (16777216 : Nat)))))) ∧
          (br (stScR fl (Row.mk (List.take (List.length l * (1 : Nat)) (List.drop (0 : Nat) (bCells l))) true (Ob.cells true)) != (0 : Int))
           ((Value.agg (Array.mk [Value.int IntKind.i64 (stScR fl (Row.mk (List.take (List.length l * (1 : Nat)) (List.drop (0 : Nat) (bCells l))) true (Ob.cells true))), Value.int IntKind.i64 (stCdR fl (Row.mk (List.take (List.length l * (1 : Nat)) (List.drop (0 : Nat) (bCells l))) true (Ob.cells true))), Value.int IntKind.i64 (0 : Int)]) = Value.agg (Array.mk [Value.int IntKind.i64 (stScR fl (Row.mk (List.take (List.length l * (1 : Nat)) (List.drop (0 : Nat) (bCells l))) true (Ob.cells true))), Value.int IntKind.i64 (stCdR fl (Row.mk (List.take (List.length l * (1 : Nat)) (List.drop (0 : Nat) (bCells l))) true (Ob.cells true))), Value.int IntKind.i64 (0 : Int)])) ∧
           ((Value.agg (Array.mk [Value.int IntKind.i64 (stScR fl (Row.mk (List.take (List.length l * (1 : Nat)) (List.drop (0 : Nat) (bCells l))) true (Ob.cells true))), Value.int IntKind.i64 (stCdR fl (Row.mk (List.take (List.length l * (1 : Nat)) (List.drop (0 : Nat) (bCells l))) true (Ob.cells true))), Value.int IntKind.i64 (0 : Int)]) = Value.agg (Array.mk [Value.int IntKind.i64 (stScR fl (Row.mk (List.take (List.length l * (1 : Nat)) (List.drop (0 : Nat) (bCells l))) true (Ob.cells true))), Value.int IntKind.i64 (stCdR fl (Row.mk (List.take (List.length l * (1 : Nat)) (List.drop (0 : Nat) (bCells l))) true (Ob.cells true))), Value.int IntKind.i64 (0 : Int)])) ∧
           ((y.1 = (0 : Int)) ∧
           ((y.2 = (0 : Int)) ∧
           ((y.3 = false) ∧
           ((y.4 = false) ∧
           ((y.5 = false) ∧
           ((List.length o = (0 : Nat)) ∧
           ((y.6 = (0 : Int)) ∧
           ((y.7 = (0 : Int)) ∧
           ((y.8 = (0 : Int)) ∧
           ((y.9 = (0 : Int)) ∧
           ((List.length s = (0 : Nat)) ∧
           ((sc = stScR fl (Row.mk (List.take (List.length l * (1 : Nat)) (List.drop (0 : Nat) (bCells l))) true (Ob.cells true))) ∧
           ((cd = stCdR fl (Row.mk (List.take (List.length l * (1 : Nat)) (List.drop (0 : Nat) (bCells l))) true (Ob.cells true))) ∧
           ((sn = (0 : Int)) ∧
           ((Eq (α := List Value) (bCells l) (bCells l)) ∧
           ((Plain (bCells l)) ∧
           ((Eq (α := List Value) (bCells o) ([])) ∧
           ((Eq (α := List Value) (gC seC s) ([])) ∧
           True))))))))))))))))))))
           ((y.1 = ty) ∧
           ((y.2 = st) ∧
           ((y.3 = false) ∧
           ((y.4 = false) ∧
           ((y.5 = bit fl (1 : Int)) ∧
           ((List.length o = (0 : Nat)) ∧
           ((y.6 = (0 : Int)) ∧
           ((y.7 = (0 : Int)) ∧
           ((y.8 = (0 : Int)) ∧
           ((y.9 = (0 : Int)) ∧
           (((0 : Nat) = (0 : Nat)) ∧
           ((List.length s = stN fl (Row.mk (List.take (List.length l * (1 : Nat)) (List.drop (0 : Nat) (bCells l))) true (Ob.cells true))) ∧
           ((sc = (0 : Int)) ∧
           ((cd = (0 : Int)) ∧
           ((sn = (0 : Int)) ∧
           ((Eq (α := List Value) (bCells l) (bCells l)) ∧
           ((Plain (bCells l)) ∧
           ((Eq (α := List Value) (bCells o) ([])) ∧
           ((Eq (α := List Value) (gC seC s) (stC fl (Row.mk (List.take (List.length l * (1 : Nat)) (List.drop (0 : Nat) (bCells l))) true (Ob.cells true)))) ∧
           ((Plain (gC seC s)) ∧
           True))))))))))))))))))))))
          (br (ty == (6 : Int))
           ((((True ∧ ((True ∧ (True ∧ (True ∧ (((0 : Nat) + List.length l * (1 : Nat) ≤ List.length (bCells l) ∧ Plain (List.take (List.length l * (1 : Nat)) (List.drop (0 : Nat) (bCells l)))) ∧ True)))) ∧ True)) ∧ (((True ∧ (True ∧ (True ∧ (True ∧ (True ∧ (True ∧ (True ∧ (True ∧ (True ∧ (True ∧ (True ∧ True))))))))))) ∧ (True ∧ True)) ∧ ((Plain (piBc (Row.mk (List.take (List.length l * (1 : Nat)) (List.drop (0 : Nat) (bCells l))) true (Ob.cells true))) ∧ True) ∧ (IsB (Row.mk (List.take (List.length l * (1 : Nat)) (List.drop (0 : Nat) (bCells l))) true (Ob.cells true)) (List.length l) ∧ List.length l ≤ (16777216 : Nat)))))) ∧
           (br (lenER (8 : Nat) (Row.mk (List.take (List.length l * (1 : Nat)) (List.drop (0 : Nat) (bCells l))) true (Ob.cells true)) (2 : Int) != (0 : Int))
            ((Value.agg (Array.mk [Value.int IntKind.i64 (lenER (8 : Nat) (Row.mk (List.take (List.length l * (1 : Nat)) (List.drop (0 : Nat) (bCells l))) true (Ob.cells true)) (2 : Int)), Value.int IntKind.i64 (lenER (8 : Nat) (Row.mk (List.take (List.length l * (1 : Nat)) (List.drop (0 : Nat) (bCells l))) true (Ob.cells true)) (6 : Int)), Value.int IntKind.i64 (0 : Int)]) = Value.agg (Array.mk [Value.int IntKind.i64 (lenER (8 : Nat) (Row.mk (List.take (List.length l * (1 : Nat)) (List.drop (0 : Nat) (bCells l))) true (Ob.cells true)) (2 : Int)), Value.int IntKind.i64 (lenER (8 : Nat) (Row.mk (List.take (List.length l * (1 : Nat)) (List.drop (0 : Nat) (bCells l))) true (Ob.cells true)) (6 : Int)), Value.int IntKind.i64 (0 : Int)])) ∧
            ((Value.agg (Array.mk [Value.int IntKind.i64 (lenER (8 : Nat) (Row.mk (List.take (List.length l * (1 : Nat)) (List.drop (0 : Nat) (bCells l))) true (Ob.cells true)) (2 : Int)), Value.int IntKind.i64 (lenER (8 : Nat) (Row.mk (List.take (List.length l * (1 : Nat)) (List.drop (0 : Nat) (bCells l))) true (Ob.cells true)) (6 : Int)), Value.int IntKind.i64 (0 : Int)]) = Value.agg (Array.mk [Value.int IntKind.i64 (lenER (8 : Nat) (Row.mk (List.take (List.length l * (1 : Nat)) (List.drop (0 : Nat) (bCells l))) true (Ob.cells true)) (2 : Int)), Value.int IntKind.i64 (lenER (8 : Nat) (Row.mk (List.take (List.length l * (1 : Nat)) (List.drop (0 : Nat) (bCells l))) true (Ob.cells true)) (6 : Int)), Value.int IntKind.i64 (0 : Int)])) ∧
            ((y.1 = (0 : Int)) ∧
            ((y.2 = (0 : Int)) ∧
            ((y.3 = false) ∧
            ((y.4 = false) ∧
            ((y.5 = false) ∧
            ((List.length o = (0 : Nat)) ∧
            ((y.6 = (0 : Int)) ∧
            ((y.7 = (0 : Int)) ∧
            ((y.8 = (0 : Int)) ∧
            ((y.9 = (0 : Int)) ∧
            ((List.length s = (0 : Nat)) ∧
            ((sc = lenER (8 : Nat) (Row.mk (List.take (List.length l * (1 : Nat)) (List.drop (0 : Nat) (bCells l))) true (Ob.cells true)) (2 : Int)) ∧
            ((cd = lenER (8 : Nat) (Row.mk (List.take (List.length l * (1 : Nat)) (List.drop (0 : Nat) (bCells l))) true (Ob.cells true)) (6 : Int)) ∧
            ((sn = (0 : Int)) ∧
            ((Eq (α := List Value) (bCells l) (bCells l)) ∧
            ((Plain (bCells l)) ∧
            ((Eq (α := List Value) (bCells o) ([])) ∧
            ((Eq (α := List Value) (gC seC s) ([])) ∧
            True))))))))))))))))))))
            ((y.1 = ty) ∧
            ((y.2 = st) ∧
            ((y.3 = false) ∧
            ((y.4 = false) ∧
            ((y.5 = piAkR false fl (Row.mk (List.take (List.length l * (1 : Nat)) (List.drop (0 : Nat) (bCells l))) true (Ob.cells true))) ∧
            (((0 : Nat) = (0 : Nat)) ∧
            ((List.length o = piBn (Row.mk (List.take (List.length l * (1 : Nat)) (List.drop (0 : Nat) (bCells l))) true (Ob.cells true))) ∧
            ((y.6 = (0 : Int)) ∧
            ((y.7 = (0 : Int)) ∧
            ((y.8 = (0 : Int)) ∧
            ((y.9 = (0 : Int)) ∧
            ((List.length s = (0 : Nat)) ∧
            ((sc = (0 : Int)) ∧
            ((cd = (0 : Int)) ∧
            ((sn = (0 : Int)) ∧
            ((Eq (α := List Value) (bCells l) (bCells l)) ∧
            ((Plain (bCells l)) ∧
            ((Eq (α := List Value) (bCells o) (piBc (Row.mk (List.take (List.length l * (1 : Nat)) (List.drop (0 : Nat) (bCells l))) true (Ob.cells true)))) ∧
            ((Plain (bCells o)) ∧
            ((Eq (α := List Value) (gC seC s) ([])) ∧
            True))))))))))))))))))))))
           (br (ty == (7 : Int))
            ((((True ∧ ((True ∧ (True ∧ (True ∧ (((0 : Nat) + List.length l * (1 : Nat) ≤ List.length (bCells l) ∧ Plain (List.take (List.length l * (1 : Nat)) (List.drop (0 : Nat) (bCells l)))) ∧ True)))) ∧ True)) ∧ (((True ∧ (True ∧ (True ∧ (True ∧ (True ∧ (True ∧ (True ∧ (True ∧ (True ∧ (True ∧ (True ∧ True))))))))))) ∧ (True ∧ True)) ∧ ((Plain (goBc (Row.mk (List.take (List.length l * (1 : Nat)) (List.drop (0 : Nat) (bCells l))) true (Ob.cells true))) ∧ True) ∧ (IsB (Row.mk (List.take (List.length l * (1 : Nat)) (List.drop (0 : Nat) (bCells l))) true (Ob.cells true)) (List.length l) ∧ List.length l ≤ (16777216 : Nat)))))) ∧
            (br (lenGR (8 : Nat) (Row.mk (List.take (List.length l * (1 : Nat)) (List.drop (0 : Nat) (bCells l))) true (Ob.cells true)) (2 : Int) != (0 : Int))
             ((Value.agg (Array.mk [Value.int IntKind.i64 (lenGR (8 : Nat) (Row.mk (List.take (List.length l * (1 : Nat)) (List.drop (0 : Nat) (bCells l))) true (Ob.cells true)) (2 : Int)), Value.int IntKind.i64 (lenGR (8 : Nat) (Row.mk (List.take (List.length l * (1 : Nat)) (List.drop (0 : Nat) (bCells l))) true (Ob.cells true)) (6 : Int)), Value.int IntKind.i64 (0 : Int)]) = Value.agg (Array.mk [Value.int IntKind.i64 (lenGR (8 : Nat) (Row.mk (List.take (List.length l * (1 : Nat)) (List.drop (0 : Nat) (bCells l))) true (Ob.cells true)) (2 : Int)), Value.int IntKind.i64 (lenGR (8 : Nat) (Row.mk (List.take (List.length l * (1 : Nat)) (List.drop (0 : Nat) (bCells l))) true (Ob.cells true)) (6 : Int)), Value.int IntKind.i64 (0 : Int)])) ∧
             ((Value.agg (Array.mk [Value.int IntKind.i64 (lenGR (8 : Nat) (Row.mk (List.take (List.length l * (1 : Nat)) (List.drop (0 : Nat) (bCells l))) true (Ob.cells true)) (2 : Int)), Value.int IntKind.i64 (lenGR (8 : Nat) (Row.mk (List.take (List.length l * (1 : Nat)) (List.drop (0 : Nat) (bCells l))) true (Ob.cells true)) (6 : Int)), Value.int IntKind.i64 (0 : Int)]) = Value.agg (Array.mk [Value.int IntKind.i64 (lenGR (8 : Nat) (Row.mk (List.take (List.length l * (1 : Nat)) (List.drop (0 : Nat) (bCells l))) true (Ob.cells true)) (2 : Int)), Value.int IntKind.i64 (lenGR (8 : Nat) (Row.mk (List.take (List.length l * (1 : Nat)) (List.drop (0 : Nat) (bCells l))) true (Ob.cells true)) (6 : Int)), Value.int IntKind.i64 (0 : Int)])) ∧
             ((y.1 = (0 : Int)) ∧
             ((y.2 = (0 : Int)) ∧
             ((y.3 = false) ∧
             ((y.4 = false) ∧
             ((y.5 = false) ∧
             ((List.length o = (0 : Nat)) ∧
             ((y.6 = (0 : Int)) ∧
             ((y.7 = (0 : Int)) ∧
             ((y.8 = (0 : Int)) ∧
             ((y.9 = (0 : Int)) ∧
             ((List.length s = (0 : Nat)) ∧
             ((sc = lenGR (8 : Nat) (Row.mk (List.take (List.length l * (1 : Nat)) (List.drop (0 : Nat) (bCells l))) true (Ob.cells true)) (2 : Int)) ∧
             ((cd = lenGR (8 : Nat) (Row.mk (List.take (List.length l * (1 : Nat)) (List.drop (0 : Nat) (bCells l))) true (Ob.cells true)) (6 : Int)) ∧
             ((sn = (0 : Int)) ∧
             ((Eq (α := List Value) (bCells l) (bCells l)) ∧
             ((Plain (bCells l)) ∧
             ((Eq (α := List Value) (bCells o) ([])) ∧
             ((Eq (α := List Value) (gC seC s) ([])) ∧
             True))))))))))))))))))))
             ((y.1 = ty) ∧
             ((y.2 = st) ∧
             ((y.3 = false) ∧
             ((y.4 = false) ∧
             ((y.5 = false) ∧
             (((0 : Nat) = (0 : Nat)) ∧
             ((List.length o = goBn (Row.mk (List.take (List.length l * (1 : Nat)) (List.drop (0 : Nat) (bCells l))) true (Ob.cells true))) ∧
             ((y.6 = goCoR (0 : Int) (Row.mk (List.take (List.length l * (1 : Nat)) (List.drop (0 : Nat) (bCells l))) true (Ob.cells true))) ∧
             ((y.7 = goLaR (0 : Int) (Row.mk (List.take (List.length l * (1 : Nat)) (List.drop (0 : Nat) (bCells l))) true (Ob.cells true))) ∧
             ((y.8 = (0 : Int)) ∧
             ((y.9 = (0 : Int)) ∧
             ((List.length s = (0 : Nat)) ∧
             ((sc = (0 : Int)) ∧
             ((cd = (0 : Int)) ∧
             ((sn = (0 : Int)) ∧
             ((Eq (α := List Value) (bCells l) (bCells l)) ∧
             ((Plain (bCells l)) ∧
             ((Eq (α := List Value) (bCells o) (goBc (Row.mk (List.take (List.length l * (1 : Nat)) (List.drop (0 : Nat) (bCells l))) true (Ob.cells true)))) ∧
             ((Plain (bCells o)) ∧
             ((Eq (α := List Value) (gC seC s) ([])) ∧
             True))))))))))))))))))))))
            (br (ty == (8 : Int))
             ((((True ∧ ((True ∧ (True ∧ (True ∧ (((0 : Nat) + List.length l * (1 : Nat) ≤ List.length (bCells l) ∧ Plain (List.take (List.length l * (1 : Nat)) (List.drop (0 : Nat) (bCells l)))) ∧ True)))) ∧ True)) ∧ (((True ∧ (True ∧ (True ∧ (True ∧ (True ∧ (True ∧ (True ∧ (True ∧ (True ∧ (True ∧ (True ∧ True))))))))))) ∧ (True ∧ True)) ∧ (True ∧ (IsB (Row.mk (List.take (List.length l * (1 : Nat)) (List.drop (0 : Nat) (bCells l))) true (Ob.cells true)) (List.length l) ∧ List.length l ≤ (16777216 : Nat)))))) ∧
             (br (wScR st (Row.mk (List.take (List.length l * (1 : Nat)) (List.drop (0 : Nat) (bCells l))) true (Ob.cells true)) != (0 : Int))
              ((Value.agg (Array.mk [Value.int IntKind.i64 (wScR st (Row.mk (List.take (List.length l * (1 : Nat)) (List.drop (0 : Nat) (bCells l))) true (Ob.cells true))), Value.int IntKind.i64 (wCdR st (Row.mk (List.take (List.length l * (1 : Nat)) (List.drop (0 : Nat) (bCells l))) true (Ob.cells true))), Value.int IntKind.i64 (wSnR st (Row.mk (List.take (List.length l * (1 : Nat)) (List.drop (0 : Nat) (bCells l))) true (Ob.cells true)))]) = Value.agg (Array.mk [Value.int IntKind.i64 (wScR st (Row.mk (List.take (List.length l * (1 : Nat)) (List.drop (0 : Nat) (bCells l))) true (Ob.cells true))), Value.int IntKind.i64 (wCdR st (Row.mk (List.take (List.length l * (1 : Nat)) (List.drop (0 : Nat) (bCells l))) true (Ob.cells true))), Value.int IntKind.i64 (wSnR st (Row.mk (List.take (List.length l * (1 : Nat)) (List.drop (0 : Nat) (bCells l))) true (Ob.cells true)))])) ∧
              ((Value.agg (Array.mk [Value.int IntKind.i64 (wScR st (Row.mk (List.take (List.length l * (1 : Nat)) (List.drop (0 : Nat) (bCells l))) true (Ob.cells true))), Value.int IntKind.i64 (wCdR st (Row.mk (List.take (List.length l * (1 : Nat)) (List.drop (0 : Nat) (bCells l))) true (Ob.cells true))), Value.int IntKind.i64 (wSnR st (Row.mk (List.take (List.length l * (1 : Nat)) (List.drop (0 : Nat) (bCells l))) true (Ob.cells true)))]) = Value.agg (Array.mk [Value.int IntKind.i64 (wScR st (Row.mk (List.take (List.length l * (1 : Nat)) (List.drop (0 : Nat) (bCells l))) true (Ob.cells true))), Value.int IntKind.i64 (wCdR st (Row.mk (List.take (List.length l * (1 : Nat)) (List.drop (0 : Nat) (bCells l))) true (Ob.cells true))), Value.int IntKind.i64 (wSnR st (Row.mk (List.take (List.length l * (1 : Nat)) (List.drop (0 : Nat) (bCells l))) true (Ob.cells true)))])) ∧
              ((y.1 = (0 : Int)) ∧
              ((y.2 = (0 : Int)) ∧
              ((y.3 = false) ∧
              ((y.4 = false) ∧
              ((y.5 = false) ∧
              ((List.length o = (0 : Nat)) ∧
              ((y.6 = (0 : Int)) ∧
              ((y.7 = (0 : Int)) ∧
              ((y.8 = (0 : Int)) ∧
              ((y.9 = (0 : Int)) ∧
              ((List.length s = (0 : Nat)) ∧
              ((sc = wScR st (Row.mk (List.take (List.length l * (1 : Nat)) (List.drop (0 : Nat) (bCells l))) true (Ob.cells true))) ∧
              ((cd = wCdR st (Row.mk (List.take (List.length l * (1 : Nat)) (List.drop (0 : Nat) (bCells l))) true (Ob.cells true))) ∧
              ((sn = wSnR st (Row.mk (List.take (List.length l * (1 : Nat)) (List.drop (0 : Nat) (bCells l))) true (Ob.cells true))) ∧
              ((Eq (α := List Value) (bCells l) (bCells l)) ∧
              ((Plain (bCells l)) ∧
              ((Eq (α := List Value) (bCells o) ([])) ∧
              ((Eq (α := List Value) (gC seC s) ([])) ∧
              True))))))))))))))))))))
              ((y.1 = ty) ∧
              ((y.2 = st) ∧
              ((y.3 = false) ∧
              ((y.4 = false) ∧
              ((y.5 = false) ∧
              ((List.length o = (0 : Nat)) ∧
              ((y.6 = (0 : Int)) ∧
              ((y.7 = (0 : Int)) ∧
              ((y.8 = wMoR (0 : Int) (Row.mk (List.take (List.length l * (1 : Nat)) (List.drop (0 : Nat) (bCells l))) true (Ob.cells true))) ∧
              ((y.9 = (0 : Int)) ∧
              ((List.length s = (0 : Nat)) ∧
              ((sc = (0 : Int)) ∧
              ((cd = (0 : Int)) ∧
              ((sn = (0 : Int)) ∧
              ((Eq (α := List Value) (bCells l) (bCells l)) ∧
              ((Plain (bCells l)) ∧
              ((Eq (α := List Value) (bCells o) ([])) ∧
              ((Eq (α := List Value) (gC seC s) ([])) ∧
              True))))))))))))))))))))
             (br (decide ((0 : Nat) + List.length l * (1 : Nat) ≤ List.length (bCells l)))
              (br (allOne (List.take (List.length l * (1 : Nat)) (List.drop (0 : Nat) (bCells l))))
               (br (decide (List.length l ≤ (16777216 : Nat)))
                ((y.1 = ty) ∧
                ((y.2 = st) ∧
                ((y.3 = false) ∧
                ((y.4 = (iand IntKind.i64 fl (4 : Int) != (0 : Int))) ∧
                ((y.5 = false) ∧
                (((0 : Nat) = (0 : Nat)) ∧
                ((List.length o = List.length l) ∧
                ((y.6 = (0 : Int)) ∧
                ((y.7 = (0 : Int)) ∧
                ((y.8 = (0 : Int)) ∧
                ((y.9 = (0 : Int)) ∧
                ((List.length s = (0 : Nat)) ∧
                ((sc = (0 : Int)) ∧
                ((cd = (0 : Int)) ∧
                ((sn = (0 : Int)) ∧
                ((Eq (α := List Value) (bCells l) (bCells l)) ∧
                ((Plain (bCells l)) ∧
                ((Eq (α := List Value) (bCells o) (List.take (List.length l * (1 : Nat)) (List.drop (0 : Nat) (bCells l)))) ∧
                ((Plain (bCells o)) ∧
                ((Eq (α := List Value) (gC seC s) ([])) ∧
                True))))))))))))))))))))
                False)
               False)
              False)))))))))))))) := by kernel_rfl
theorem Right_vc (ty fl st : Int) (l : List UInt8) (b : Bool) : mcall E0 noM 60 19 [.agg ⟨frCy ty fl st 0 l.length⟩] ⟨mkR (nums 0 [bRo l]), 1⟩ (retIs 1 (.bool b) [bRo l]) =
  (br (decide (ty ≥ (0 : Int)))
   (br (decide (ty ≤ (255 : Int)))
    (br (decide (fl ≥ (0 : Int)))
     (br (decide (fl ≤ (255 : Int)))
      (br (decide (st ≥ (0 : Int)))
       (br (decide (st ≤ (2147483647 : Int)))
        ((b = decide (Int.ofNat (List.length l) ≤ (16777215 : Int))) ∧
        ((Eq (α := List Value) (bCells l) (bCells l)) ∧
        ((Plain (bCells l)) ∧
        True)))
        ((b = false) ∧
        ((Eq (α := List Value) (bCells l) (bCells l)) ∧
        ((Plain (bCells l)) ∧
        True))))
       ((b = false) ∧
       ((Eq (α := List Value) (bCells l) (bCells l)) ∧
       ((Plain (bCells l)) ∧
       True))))
      ((b = false) ∧
      ((Eq (α := List Value) (bCells l) (bCells l)) ∧
      ((Plain (bCells l)) ∧
      True))))
     ((b = false) ∧
     ((Eq (α := List Value) (bCells l) (bCells l)) ∧
     ((Plain (bCells l)) ∧
     True))))
    ((b = false) ∧
    ((Eq (α := List Value) (bCells l) (bCells l)) ∧
    ((Plain (bCells l)) ∧
    True))))
   ((b = false) ∧
   ((Eq (α := List Value) (bCells l) (bCells l)) ∧
   ((Plain (bCells l)) ∧
   True)))) := by kernel_rfl
theorem Mis_vc (ty fl st : Int) (l : List UInt8) (b : Bool) : mcall E0 noM 60 20 [.agg ⟨frCy ty fl st 0 l.length⟩] ⟨mkR (nums 0 [bRo l]), 1⟩ (retIs 1 (.bool b) [bRo l]) =
  (br (ty == (5 : Int))
   ((b = true) ∧
   ((Eq (α := List Value) (bCells l) (bCells l)) ∧
   ((Plain (bCells l)) ∧
   True)))
   (br (ty == (8 : Int))
    ((b = false) ∧
    ((Eq (α := List Value) (bCells l) (bCells l)) ∧
    ((Plain (bCells l)) ∧
    True)))
    (br (ty == (4 : Int))
     ((b = (st != (0 : Int))) ∧
     ((Eq (α := List Value) (bCells l) (bCells l)) ∧
     ((Plain (bCells l)) ∧
     True)))
     (br (ty == (6 : Int))
      ((b = (st != (0 : Int))) ∧
      ((Eq (α := List Value) (bCells l) (bCells l)) ∧
      ((Plain (bCells l)) ∧
      True)))
      (br (ty == (7 : Int))
       ((b = (st != (0 : Int))) ∧
       ((Eq (α := List Value) (bCells l) (bCells l)) ∧
       ((Plain (bCells l)) ∧
       True)))
       ((b = (st == (0 : Int))) ∧
       ((Eq (α := List Value) (bCells l) (bCells l)) ∧
       ((Plain (bCells l)) ∧
       True)))))))) := by kernel_rfl
theorem Right_con (ty fl st : Int) (l : List UInt8) : Con Try.prog 19 [.agg ⟨frCy ty fl st 0 l.length⟩] [bRo l] (.bool (rightB ty fl st l.length)) [bRo l] := by
  refine con_vc (E := E0) mixed (calls_envN _) (lok_envN _) (M := noM) lm_none (Right_vc ty fl st l _) ?_
  simp only [br_iff]
  unfold rightB
  simp only [decide_eq_true_eq, decide_eq_false_iff_not, ofNat_eq, toNat_cast, Nat.zero_add, Nat.add_zero, Nat.mul_one, List.drop_zero, bCells_len, bCells_drop, bCells_take, bCells_app, bCells_one, bCells_plain, List.length_replicate, List.length_append, List.length_take, List.length_drop, List.take_length, and_true, true_and, and_self, decide_true, List.length_nil, List.length_cons, Nat.sub_zero, dB_mk, dB_ro, List.take_zero]
  grind
theorem Mis_con (ty fl st : Int) (l : List UInt8) : Con Try.prog 20 [.agg ⟨frCy ty fl st 0 l.length⟩] [bRo l] (.bool (misB ty st)) [bRo l] := by
  refine con_vc (E := E0) mixed (calls_envN _) (lok_envN _) (M := noM) lm_none (Mis_vc ty fl st l _) ?_
  simp only [br_iff]
  unfold misB ownT
  simp only [ofNat_eq, toNat_cast, Nat.zero_add, Nat.add_zero, Nat.mul_one, List.drop_zero, bCells_len, bCells_drop, bCells_take, bCells_app, bCells_one, bCells_plain, List.length_replicate, List.length_append, List.length_take, List.length_drop, List.take_length, and_true, true_and, and_self, decide_true, List.length_nil, List.length_cons, Nat.sub_zero, dB_mk, dB_ro, List.take_zero]
  grind
theorem eRight_ok : EntOk Try.prog eRight := entC_ok (by
  intro a rows p v news h hp
  split at h <;> simp only [Option.some.injEq, Prod.mk.injEq, reduceCtorEq] at h
  obtain ⟨rfl, rfl, rfl⟩ := h
  obtain ⟨l, rfl, rfl⟩ := hp
  rw [List.append_nil]
  exact Right_con _ _ _ l)
theorem eMis_ok : EntOk Try.prog eMis := entC_ok (by
  intro a rows p v news h hp
  split at h <;> simp only [Option.some.injEq, Prod.mk.injEq, reduceCtorEq] at h
  obtain ⟨rfl, rfl, rfl⟩ := h
  obtain ⟨l, rfl, rfl⟩ := hp
  rw [List.append_nil]
  exact Mis_con _ _ _ l)
theorem eDat_ok : EntOk Try.prog eDat := by
  intro a rows p v n' rl he hp
  simp only [eDat] at he
  split at he
  · simp only [Option.some.injEq, Prod.mk.injEq] at he
    obtain ⟨rfl, rfl, rfl, rfl⟩ := he
    obtain ⟨⟨l, rfl, rfl⟩, h1⟩ := hp
    simp only [dScR, dCdR, dE, dCs, dBn, dBc, dB_ro]
    exact Dat_con ⟨_, _, _, _, _, _, _, _, _⟩ _ _ _ l h1
  · simp at he
theorem eHea_ok : EntOk Try.prog eHea := by
  intro a rows p v n' rl he hp
  simp only [eHea] at he
  split at he
  · simp only [Option.some.injEq, Prod.mk.injEq] at he
    obtain ⟨rfl, rfl, rfl, rfl⟩ := he
    obtain ⟨⟨l, rfl, rfl⟩, h1⟩ := hp
    simp only [hScR, hCdR, hSnR, hE, hBn, hBc, dB_ro]
    exact Hea_con ⟨_, _, _, _, _, _, _, _, _⟩ _ _ _ l h1
  · simp at he
theorem eRes_ok : EntOk Try.prog eRes := by
  intro a rows p v n' rl he hp
  simp only [eRes] at he
  split at he
  · simp only [Option.some.injEq, Prod.mk.injEq] at he
    obtain ⟨rfl, rfl, rfl, rfl⟩ := he
    obtain ⟨⟨l, rfl, rfl⟩, h1⟩ := hp
    simp only [lenER, reCoR, dB_ro]
    exact Res_con ⟨_, _, _, _, _, _, _, _, _⟩ _ _ _ l h1
  · simp at he
theorem ePin_ok : EntOk Try.prog ePin := by
  intro a rows p v n' rl he hp
  simp only [ePin] at he
  split at he
  · simp only [Option.some.injEq, Prod.mk.injEq] at he
    obtain ⟨rfl, rfl, rfl, rfl⟩ := he
    obtain ⟨⟨l, rfl, rfl⟩, h1⟩ := hp
    simp only [lenER, piAkR, piBn, piBc, dB_ro]
    exact Pin_con ⟨_, _, _, _, _, _, _, _, _⟩ _ _ _ l h1
  · simp at he
theorem eGoA_ok : EntOk Try.prog eGoA := by
  intro a rows p v n' rl he hp
  simp only [eGoA] at he
  split at he
  · simp only [Option.some.injEq, Prod.mk.injEq] at he
    obtain ⟨rfl, rfl, rfl, rfl⟩ := he
    obtain ⟨⟨l, rfl, rfl⟩, h1⟩ := hp
    simp only [lenGR, goLaR, goCoR, goBn, goBc, dB_ro]
    exact GoA_con ⟨_, _, _, _, _, _, _, _, _⟩ _ _ _ l h1
  · simp at he
theorem eWin_ok : EntOk Try.prog eWin := by
  intro a rows p v n' rl he hp
  simp only [eWin] at he
  split at he
  · simp only [Option.some.injEq, Prod.mk.injEq] at he
    obtain ⟨rfl, rfl, rfl, rfl⟩ := he
    obtain ⟨⟨l, rfl, rfl⟩, h1⟩ := hp
    simp only [wScR, wCdR, wSnR, wMoR, dB_ro]
    exact Win_con ⟨_, _, _, _, _, _, _, _, _⟩ _ _ _ l h1
  · simp at he
theorem ePri_ok : EntOk Try.prog ePri := entC_ok (by
  intro a rows p v news h hp
  split at h <;> simp only [Option.some.injEq, Prod.mk.injEq, reduceCtorEq] at h
  obtain ⟨rfl, rfl, rfl⟩ := h
  obtain ⟨⟨l, rfl, rfl⟩, h1⟩ := hp
  simp only [pScR, pCdR, pSnR, dB_ro, List.append_nil]
  exact Pri_con _ _ _ l h1)
theorem tOf_ok : ∀ x ∈ tOf, EntOk Try.prog x := all_cons eSet_ok (all_cons eRight_ok (all_cons eMis_ok (all_cons eDat_ok (all_cons eHea_ok (all_cons eRes_ok (all_cons ePin_ok (all_cons eGoA_ok (all_cons eWin_ok (all_cons ePri_ok (all_nil))))))))))
theorem eq_of_bne_false {a b : Int} (h : (a != b) = false) : a = b := by simpa using h
theorem Of_con (ty fl st : Int) (l : List UInt8) (hl : l.length ≤ 16777216) : Con Try.prog 10 [.agg ⟨frCy ty fl st 0 l.length⟩] [bRo l] (.tuple #[.agg ⟨ptCy (shO ty fl st l).y 1 (shO ty fl st l).b.length 2 (shO ty fl st l).se.length⟩, .agg ⟨[.int .i64 (shO ty fl st l).sc, .int .i64 (shO ty fl st l).cd, .int .i64 (shO ty fl st l).sn]⟩]) [bRo l, bOwn (shO ty fl st l).b, gOwn seC (shO ty fl st l).se] := by
  refine con_vc (E := EtOf) mixed (calls_envT tOf_ok) (lok_envT _ _) (M := noM) lm_none (Of_vc _ ty fl st _ _ _ l _ _) ?_
  have n1 : ∀ m : List UInt8, dScR fl ⟨bCells m, true, .cells true⟩ = dSc fl m := fun m => by unfold dScR; rw [dB_mk]
  simp only [ofNat_eq, toNat_cast, Nat.zero_add, Nat.add_zero, Nat.mul_one, List.drop_zero, bCells_len, bCells_drop, bCells_take, bCells_app, bCells_one, bCells_plain, List.length_replicate, List.length_append, List.length_take, List.length_drop, List.take_length, and_true, true_and, and_self, decide_true, List.length_nil, List.length_cons, Nat.sub_zero, dB_mk, dB_ro, List.take_zero]
  clear n1
  have i64 : l.length ≤ 16777216 := hl
  simp only [ofNat_eq, toNat_cast, Nat.zero_add, Nat.add_zero, Nat.mul_one, List.drop_zero, bCells_len, bCells_drop, bCells_take, bCells_app, bCells_one, bCells_plain, List.length_replicate, List.length_append, List.length_take, List.length_drop, List.take_length, and_true, true_and, and_self, decide_true, List.length_nil, List.length_cons, Nat.sub_zero, dB_mk, dB_ro, List.take_zero, isB_eq, dScR, dCdR, dE, dCs, dBn, dBc, hScR, hCdR, hSnR, hE, hBn, hBc, pScR, pCdR, pSnR, lenER, lenGR, reCoR, piAkR, piBn, piBc, goLaR, goCoR, goBn, goBc, wScR, wCdR, wSnR, wMoR, stScR, stCdR, stN, stC, dB_mk, bCells_plain, sePl, Nat.le_refl, hl]
  refine br_intro (fun h1 => ?_) (fun h1 => br_intro (fun h2 => ?_) (fun h2 => br_intro (fun h3 => ?_) (fun h3 => ?_)))
  · have h1 : rightB ty fl st l.length = false := by simpa using h1
    rw [show shO ty fl st l = okO (y0 ty st) [] [] by unfold shO; rw [if_pos (.inl h1)]]; simp [okO, y0, bCells, gC]
  · have h2 : ty > 9 := of_decide_eq_true h2
    rw [show shO ty fl st l = okO (y0 ty st) [] [] by unfold shO; rw [if_pos (.inr h2)]]; simp [okO, y0, bCells, gC]
  all_goals
    have h1 : rightB ty fl st l.length = true := by simpa using h1
    have h2 : ¬ ty > 9 := of_decide_eq_false h2
  · rw [show shO ty fl st l = badO 2 1 0 by unfold shO; rw [if_neg (by rw [h1]; simp; omega), if_pos h3]]; simp [badO, bCells, gC]
  have hs : shO ty fl st l = tyO ty fl st l := by unfold shO; rw [if_neg (by rw [h1]; simp; omega), if_neg (by rw [h3]; simp)]
  rw [hs]
  have pk0 : ∀ (a b c : Int) (o : ShO), (a != 0) = false → pickO a b c o = o := fun a b c o h => by unfold pickO; rw [if_pos (by simpa using h)]
  have pk1 : ∀ (a b c : Int) (o : ShO), (a != 0) = true → pickO a b c o = badO a b c := fun a b c o h => by unfold pickO; rw [if_neg (by simpa using h)]
  refine br_intro (fun t => br_intro (fun k => ?_) (fun k => ?_)) (fun t0 => br_intro (fun t => br_intro (fun k => ?_) (fun k => ?_)) (fun t1 => br_intro (fun t => br_intro (fun k => ?_) (fun k => ?_)) (fun t2 => br_intro (fun t => br_intro (fun k => ?_) (fun k => ?_)) (fun t3 => br_intro (fun t => br_intro (fun k => ?_) (fun k => ?_)) (fun t4 => br_intro (fun t => br_intro (fun k => ?_) (fun k => ?_)) (fun t6 => br_intro (fun t => br_intro (fun k => ?_) (fun k => ?_)) (fun t7 => br_intro (fun t => br_intro (fun k => ?_) (fun k => ?_)) (fun t8 => ?_))))))))
  all_goals
    simp only [beq_iff_eq, beq_eq_false_iff_ne, ne_eq] at *
  all_goals unfold tyO
  all_goals
    first
    | rw [if_neg t0, if_neg t1, if_neg t2, if_neg t3, if_neg t4, if_neg t6, if_neg t7, if_neg t8]
    | rw [if_neg t0, if_neg t1, if_neg t2, if_neg t3, if_neg t4, if_neg t6, if_neg t7, if_pos t]
    | rw [if_neg t0, if_neg t1, if_neg t2, if_neg t3, if_neg t4, if_neg t6, if_pos t]
    | rw [if_neg t0, if_neg t1, if_neg t2, if_neg t3, if_neg t4, if_pos t]
    | rw [if_neg t0, if_neg t1, if_neg t2, if_neg t3, if_pos t]
    | rw [if_neg t0, if_neg t1, if_neg t2, if_pos t]
    | rw [if_neg t0, if_neg t1, if_pos t]
    | rw [if_neg t0, if_pos t]
    | rw [if_pos t]
  all_goals
    first
    | rw [pk1 _ _ _ _ k]; simp [badO, bCells, gC]
    | rw [pk0 _ _ _ _ k]; have k' := eq_of_bne_false k; simp [k', okO, y0, bCells, gC]
    | skip
  simp [br_tt0, okO, gC, bit]
end Go.Proofs.Ytagahikocoggcaa.sh
