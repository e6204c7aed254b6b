/- What frames of the single types say. -/
import Derived.Test.YtagahikocoggcaaSz9
import Derived.Test.YtagahikocoggcaaRows
import Derived.Test.YtagahikocoggcaaLshB
set_option maxRecDepth 20000
set_option linter.unusedSimpArgs false
set_option linter.unusedVariables false
namespace Go.Proofs.Ytagahikocoggcaa.sh
open Go Go.Ev Go.Sy Go.RowKit Go.Proofs.Ytagahikocoggcaa.gl
def padOk (fl : Int) (l : List UInt8) : Bool := !(bit fl 8 && decide (l.length = 0))
def padN (fl : Int) (l : List UInt8) : Nat := if bit fl 8 then (l.getD 0 0).toNat else 0
def padR (fl : Int) (l : List UInt8) : List UInt8 := if bit fl 8 then l.drop 1 else l
def dSc (fl : Int) (l : List UInt8) : Int := if padOk fl l then (if padN fl l > (padR fl l).length then 2 else 0) else 2
def dCd (fl : Int) (l : List UInt8) : Int := if padOk fl l then (if padN fl l > (padR fl l).length then 1 else 0) else 6
def dBo (fl : Int) (l : List UInt8) : List UInt8 := if dSc fl l = 0 then (padR fl l).take ((padR fl l).length - padN fl l) else []
def hRe (fl : Int) (l : List UInt8) : List UInt8 := if bit fl 32 then (padR fl l).drop 5 else padR fl l
def hSc (fl st : Int) (l : List UInt8) : Int := if padOk fl l then (if bit fl 32 then (if (padR fl l).length < 5 then 2 else if (low4 (padR fl l) : Int) = st then 1 else if padN fl l > (hRe fl l).length then 2 else 0) else if padN fl l > (hRe fl l).length then 2 else 0) else 2
def hCd (fl st : Int) (l : List UInt8) : Int := if padOk fl l then (if bit fl 32 then (if (padR fl l).length < 5 then 6 else if (low4 (padR fl l) : Int) = st then 1 else if padN fl l > (hRe fl l).length then 1 else 0) else if padN fl l > (hRe fl l).length then 1 else 0) else 6
def hSn (fl st : Int) (l : List UInt8) : Int := if hSc fl st l = 1 then st else 0
def hBo (fl st : Int) (l : List UInt8) : List UInt8 := if hSc fl st l = 0 then (hRe fl l).take ((hRe fl l).length - padN fl l) else []
def pSc (st : Int) (l : List UInt8) : Int := if l.length ≠ 5 then 1 else if (low4 l : Int) = st then 1 else 0
def pCd (st : Int) (l : List UInt8) : Int := if l.length ≠ 5 then 6 else if (low4 l : Int) = st then 1 else 0
def pSn (st : Int) (l : List UInt8) : Int := if pSc st l = 0 then 0 else st
def lenE (k : Nat) (l : List UInt8) (x : Int) : Int := if l.length = k then 0 else x
def lenG (k : Nat) (l : List UInt8) (x : Int) : Int := if k ≤ l.length then 0 else x
def reCo (co : Int) (l : List UInt8) : Int := if l.length = 4 then (num4 l : Nat) else co
def piAk (ak : Bool) (fl : Int) (l : List UInt8) : Bool := if l.length = 8 then bit fl 1 else ak
def piBo (l : List UInt8) : List UInt8 := if l.length = 8 then l else []
def goLa (la : Int) (l : List UInt8) : Int := if 8 ≤ l.length then (low4 l : Nat) else la
def goCo (co : Int) (l : List UInt8) : Int := if 8 ≤ l.length then (num4 (l.drop 4) : Nat) else co
def goBo (l : List UInt8) : List UInt8 := if 8 ≤ l.length then l.drop 8 else []
def wSc (st : Int) (l : List UInt8) : Int := if l.length ≠ 4 then 2 else if low4 l > 0 then 0 else if st = 0 then 2 else 1
def wCd (st : Int) (l : List UInt8) : Int := if l.length ≠ 4 then 6 else if low4 l > 0 then 0 else 1
def wSn (st : Int) (l : List UInt8) : Int := if wSc st l = 1 then st else 0
def wMo (mo : Int) (l : List UInt8) : Int := if l.length = 4 then (low4 l : Nat) else mo
def dE (e : Bool) (fl : Int) (r : Row) : Bool := if dSc fl (dB r) = 0 then bit fl 1 else e
def dCs (cs : Int) (fl : Int) (r : Row) : Int := if dSc fl (dB r) = 0 then ((dB r).length : Nat) else cs
def dScR (fl : Int) (r : Row) : Int := dSc fl (dB r)
def dCdR (fl : Int) (r : Row) : Int := dCd fl (dB r)
def dBn (fl : Int) (r : Row) : Nat := (dBo fl (dB r)).length
def dBc (fl : Int) (r : Row) : List Value := bCells (dBo fl (dB r))
def hE (e : Bool) (k fl st : Int) (r : Row) : Bool := if hSc fl st (dB r) = 0 then bit fl k else e
def hScR (fl st : Int) (r : Row) : Int := hSc fl st (dB r)
def hCdR (fl st : Int) (r : Row) : Int := hCd fl st (dB r)
def hSnR (fl st : Int) (r : Row) : Int := hSn fl st (dB r)
def hBn (fl st : Int) (r : Row) : Nat := (hBo fl st (dB r)).length
def hBc (fl st : Int) (r : Row) : List Value := bCells (hBo fl st (dB r))
def pScR (st : Int) (r : Row) : Int := pSc st (dB r)
def pCdR (st : Int) (r : Row) : Int := pCd st (dB r)
def pSnR (st : Int) (r : Row) : Int := pSn st (dB r)
def lenER (k : Nat) (r : Row) (x : Int) : Int := lenE k (dB r) x
def lenGR (k : Nat) (r : Row) (x : Int) : Int := lenG k (dB r) x
def reCoR (co : Int) (r : Row) : Int := reCo co (dB r)
def piAkR (ak : Bool) (fl : Int) (r : Row) : Bool := piAk ak fl (dB r)
def piBn (r : Row) : Nat := (piBo (dB r)).length
def piBc (r : Row) : List Value := bCells (piBo (dB r))
def goLaR (la : Int) (r : Row) : Int := goLa la (dB r)
def goCoR (co : Int) (r : Row) : Int := goCo co (dB r)
def goBn (r : Row) : Nat := (goBo (dB r)).length
def goBc (r : Row) : List Value := bCells (goBo (dB r))
def wScR (st : Int) (r : Row) : Int := wSc st (dB r)
def wCdR (st : Int) (r : Row) : Int := wCd st (dB r)
def wSnR (st : Int) (r : Row) : Int := wSn st (dB r)
def wMoR (mo : Int) (r : Row) : Int := wMo mo (dB r)
def ptC2 (y : PtY) (rb nb : Nat) : List Value := [.int .i64 y.ty, .int .i64 y.st, .bool y.e, .bool y.f, .bool y.a, .slice (some ⟨rb, 0, none⟩) nb 1, .int .i64 y.co, .int .i64 y.la, .int .i64 y.mo, .int .i64 y.cs, .slice none 0 0]
def eDat : EntM := (31, fun a r => match a, r with
  | [.pointer (some ⟨0, 0, none⟩), .agg ⟨[.int .i64 ty, .int .i64 fl, .int .i64 st, .slice (some ⟨1, 0, none⟩) n 1]⟩], [⟨[.int .i64 t2, .int .i64 s2, .bool e, .bool f, .bool ak, .slice none 0 0, .int .i64 co, .int .i64 la, .int .i64 mo, .int .i64 cs, .slice none 0 0], false, .cells false⟩, r1] =>
    some (IsB r1 n ∧ n ≤ 16777216, .agg ⟨[.int .i64 (dScR fl r1), .int .i64 (dCdR fl r1), .int .i64 (0)]⟩, 3, [(0, ⟨[.int .i64 t2, .int .i64 s2, .bool (dE e fl r1), .bool f, .bool ak, .slice (some ⟨2, 0, none⟩) (dBn fl r1) 1, .int .i64 co, .int .i64 la, .int .i64 mo, .int .i64 (dCs cs fl r1), .slice none 0 0], false, .cells false⟩), (2, ⟨dBc fl r1, false, .cells true⟩)])
  | _, _ => none)
def eHea : EntM := (32, fun a r => match a, r with
  | [.pointer (some ⟨0, 0, none⟩), .agg ⟨[.int .i64 ty, .int .i64 fl, .int .i64 st, .slice (some ⟨1, 0, none⟩) n 1]⟩], [⟨[.int .i64 t2, .int .i64 s2, .bool e, .bool f, .bool ak, .slice none 0 0, .int .i64 co, .int .i64 la, .int .i64 mo, .int .i64 cs, .slice none 0 0], false, .cells false⟩, r1] =>
    some (IsB r1 n ∧ n ≤ 16777216, .agg ⟨[.int .i64 (hScR fl st r1), .int .i64 (hCdR fl st r1), .int .i64 (hSnR fl st r1)]⟩, 3, [(0, ⟨[.int .i64 t2, .int .i64 s2, .bool (hE e 1 fl st r1), .bool (hE f 4 fl st r1), .bool ak, .slice (some ⟨2, 0, none⟩) (hBn fl st r1) 1, .int .i64 co, .int .i64 la, .int .i64 mo, .int .i64 cs, .slice none 0 0], false, .cells false⟩), (2, ⟨hBc fl st r1, false, .cells true⟩)])
  | _, _ => none)
def eRes : EntM := (34, fun a r => match a, r with
  | [.pointer (some ⟨0, 0, none⟩), .agg ⟨[.int .i64 ty, .int .i64 fl, .int .i64 st, .slice (some ⟨1, 0, none⟩) n 1]⟩], [⟨[.int .i64 t2, .int .i64 s2, .bool e, .bool f, .bool ak, .slice none 0 0, .int .i64 co, .int .i64 la, .int .i64 mo, .int .i64 cs, .slice none 0 0], false, .cells false⟩, r1] =>
    some (IsB r1 n ∧ n ≤ 16777216, .agg ⟨[.int .i64 (lenER 4 r1 2), .int .i64 (lenER 4 r1 6), .int .i64 (0)]⟩, 2, [(0, ⟨[.int .i64 t2, .int .i64 s2, .bool e, .bool f, .bool ak, .slice none 0 0, .int .i64 (reCoR co r1), .int .i64 la, .int .i64 mo, .int .i64 cs, .slice none 0 0], false, .cells false⟩)])
  | _, _ => none)
def ePin : EntM := (36, fun a r => match a, r with
  | [.pointer (some ⟨0, 0, none⟩), .agg ⟨[.int .i64 ty, .int .i64 fl, .int .i64 st, .slice (some ⟨1, 0, none⟩) n 1]⟩], [⟨[.int .i64 t2, .int .i64 s2, .bool e, .bool f, .bool ak, .slice none 0 0, .int .i64 co, .int .i64 la, .int .i64 mo, .int .i64 cs, .slice none 0 0], false, .cells false⟩, r1] =>
    some (IsB r1 n ∧ n ≤ 16777216, .agg ⟨[.int .i64 (lenER 8 r1 2), .int .i64 (lenER 8 r1 6), .int .i64 (0)]⟩, 3, [(0, ⟨[.int .i64 t2, .int .i64 s2, .bool e, .bool f, .bool (piAkR ak fl r1), .slice (some ⟨2, 0, none⟩) (piBn r1) 1, .int .i64 co, .int .i64 la, .int .i64 mo, .int .i64 cs, .slice none 0 0], false, .cells false⟩), (2, ⟨piBc r1, false, .cells true⟩)])
  | _, _ => none)
def eGoA : EntM := (37, fun a r => match a, r with
  | [.pointer (some ⟨0, 0, none⟩), .agg ⟨[.int .i64 ty, .int .i64 fl, .int .i64 st, .slice (some ⟨1, 0, none⟩) n 1]⟩], [⟨[.int .i64 t2, .int .i64 s2, .bool e, .bool f, .bool ak, .slice none 0 0, .int .i64 co, .int .i64 la, .int .i64 mo, .int .i64 cs, .slice none 0 0], false, .cells false⟩, r1] =>
    some (IsB r1 n ∧ n ≤ 16777216, .agg ⟨[.int .i64 (lenGR 8 r1 2), .int .i64 (lenGR 8 r1 6), .int .i64 (0)]⟩, 3, [(0, ⟨[.int .i64 t2, .int .i64 s2, .bool e, .bool f, .bool ak, .slice (some ⟨2, 0, none⟩) (goBn r1) 1, .int .i64 (goCoR co r1), .int .i64 (goLaR la r1), .int .i64 mo, .int .i64 cs, .slice none 0 0], false, .cells false⟩), (2, ⟨goBc r1, false, .cells true⟩)])
  | _, _ => none)
def eWin : EntM := (38, fun a r => match a, r with
  | [.pointer (some ⟨0, 0, none⟩), .agg ⟨[.int .i64 ty, .int .i64 fl, .int .i64 st, .slice (some ⟨1, 0, none⟩) n 1]⟩], [⟨[.int .i64 t2, .int .i64 s2, .bool e, .bool f, .bool ak, .slice none 0 0, .int .i64 co, .int .i64 la, .int .i64 mo, .int .i64 cs, .slice none 0 0], false, .cells false⟩, r1] =>
    some (IsB r1 n ∧ n ≤ 16777216, .agg ⟨[.int .i64 (wScR st r1), .int .i64 (wCdR st r1), .int .i64 (wSnR st r1)]⟩, 2, [(0, ⟨[.int .i64 t2, .int .i64 s2, .bool e, .bool f, .bool ak, .slice none 0 0, .int .i64 co, .int .i64 la, .int .i64 (wMoR mo r1), .int .i64 cs, .slice none 0 0], false, .cells false⟩)])
  | _, _ => none)
noncomputable def ePri : EntM := entC 33 fun a r => match a, r with
  | [.agg ⟨[.int .i64 ty, .int .i64 fl, .int .i64 st, .slice (some ⟨0, 0, none⟩) n 1]⟩], [r0] => some (IsB r0 n ∧ n ≤ 16777216, .agg ⟨[.int .i64 (pScR st r0), .int .i64 (pCdR st r0), .int .i64 (pSnR st r0)]⟩, [])
  | _, _ => none
noncomputable def tSub : List EntM := [eNum, eLow]
noncomputable abbrev EtSub : Env := envT Try.prog tSub
theorem Dat_vc (y z : PtY) (ty fl st sc cd sn : Int) (l o : List UInt8) : mcall EtSub noM 60 31 [.pointer (some ⟨0, 0, none⟩), .agg ⟨frCy ty fl st 1 l.length⟩] ⟨mkR (nums 0 [⟨ptC0 y, false, .cells false⟩, bRo l]), 2⟩ (retIsM 2 (.agg ⟨[.int .i64 sc, .int .i64 cd, .int .i64 sn]⟩) 3 [(0, ⟨ptC2 z 2 o.length, false, .cells false⟩), (2, bOwn o)]) =
  (br (iand IntKind.i64 fl (8 : Int) == (0 : Int))
   (br (decide ((0 : Int) ≤ (↑(0 : Nat) : Int) ∧ (0 : Int) ≤ IntKind.wrap IntKind.i64 (Int.ofNat (List.length l) - (0 : Int)) ∧ IntKind.wrap IntKind.i64 (Int.ofNat (List.length l) - (0 : Int)) ≤ (↑(List.length l) : Int)))
    (br (decide ((0 : Nat) + (Int.toNat (IntKind.wrap IntKind.i64 (Int.ofNat (List.length l) - (0 : Int))) - (0 : Nat)) * (1 : Nat) ≤ List.length (bCells l)))
     (br (allOne (List.take ((Int.toNat (IntKind.wrap IntKind.i64 (Int.ofNat (List.length l) - (0 : Int))) - (0 : Nat)) * (1 : Nat)) (List.drop (0 : Nat) (bCells l))))
      (br (decide (Int.toNat (IntKind.wrap IntKind.i64 (Int.ofNat (List.length l) - (0 : Int))) - (0 : Nat) ≤ (16777216 : Nat)))
       ((sc = (0 : Int)) ∧
       ((cd = (0 : Int)) ∧
       ((sn = (0 : Int)) ∧
       ((z.1 = y.1) ∧
       ((z.2 = y.2) ∧
       ((z.3 = (iand IntKind.i64 fl (1 : Int) != (0 : Int))) ∧
       ((z.4 = y.4) ∧
       ((z.5 = y.5) ∧
       (((0 : Nat) = (0 : Nat)) ∧
       ((List.length o = Int.toNat (IntKind.wrap IntKind.i64 (Int.ofNat (List.length l) - (0 : Int))) - (0 : Nat)) ∧
       ((z.6 = y.6) ∧
       ((z.7 = y.7) ∧
       ((z.8 = y.8) ∧
       ((z.9 = Int.ofNat (List.length l)) ∧
       ((Eq (α := List Value) (bCells o) (List.take ((Int.toNat (IntKind.wrap IntKind.i64 (Int.ofNat (List.length l) - (0 : Int))) - (0 : Nat)) * (1 : Nat)) (List.drop (0 : Nat) (bCells l)))) ∧
       ((Plain (bCells o)) ∧
       True))))))))))))))))
       False)
      False)
     False)
    False)
   (br (Int.ofNat (List.length l) == (0 : Int))
    ((sc = (2 : Int)) ∧
    ((cd = (6 : Int)) ∧
    ((sn = (0 : Int)) ∧
    ((z.1 = y.1) ∧
    ((z.2 = y.2) ∧
    ((z.3 = y.3) ∧
    ((z.4 = y.4) ∧
    ((z.5 = y.5) ∧
    ((List.length o = (0 : Nat)) ∧
    ((z.6 = y.6) ∧
    ((z.7 = y.7) ∧
    ((z.8 = y.8) ∧
    ((z.9 = y.9) ∧
    ((Eq (α := List Value) (bCells o) ([])) ∧
    True))))))))))))))
    (br (decide ((0 : Int) ≤ (1 : Int) ∧ (1 : Int) ≤ (↑(List.length l) : Int) ∧ (↑(List.length l) : Int) ≤ (↑(List.length l) : Int)))
     (br (decide ((0 : Int) ≤ (0 : Int) ∧ (0 : Int) < (↑(List.length l) : Int)))
      ((Eq (α := Option Value) ((bCells l)[(0 : Nat)]?) (some (Value.int IntKind.u8 (cellI (bCells l) (0 : Nat))))) ∧
      ((Value.slice (some (Addr.mk (1 : Nat) (0 : Nat) none)) (List.length l) (1 : Nat) = Value.slice (some (Addr.mk (1 : Nat) (0 : Nat) none)) (List.length l) (1 : Nat)) ∧
      (br (decide ((0 : Int) ≤ (1 : Int) ∧ (1 : Int) ≤ (↑(List.length l) : Int) ∧ (↑(List.length l) : Int) ≤ (↑(List.length l) : Int)))
       ((Value.slice (some (Addr.mk (1 : Nat) (1 : Nat) none)) (Int.toNat (↑(List.length l) : Int) - (1 : Nat)) (1 : Nat) = Value.slice (some (Addr.mk (1 : Nat) (1 : Nat) none)) (Int.toNat (↑(List.length l) : Int) - (1 : Nat)) (1 : Nat)) ∧
       ((Value.slice (some (Addr.mk (1 : Nat) (0 : Nat) none)) (List.length l) (1 : Nat) = Value.slice (some (Addr.mk (1 : Nat) (0 : Nat) none)) (List.length l) (1 : Nat)) ∧
       ((Eq (α := Option Value) ((bCells l)[(0 : Nat)]?) (some (Value.int IntKind.u8 (cellI (bCells l) (0 : Nat))))) ∧
       ((Value.int IntKind.u8 (cellI (bCells l) (0 : Nat)) = Value.int IntKind.u8 (cellI (bCells l) (0 : Nat))) ∧
       ((Value.int IntKind.i64 (IntKind.wrap IntKind.i64 (cellI (bCells l) (0 : Nat))) = Value.int IntKind.i64 (IntKind.wrap IntKind.i64 (cellI (bCells l) (0 : Nat)))) ∧
       (br (decide (IntKind.wrap IntKind.i64 (cellI (bCells l) (0 : Nat)) > Int.ofNat (Int.toNat (↑(List.length l) : Int) - (1 : Nat))))
        ((sc = (2 : Int)) ∧
        ((cd = (1 : Int)) ∧
        ((sn = (0 : Int)) ∧
        ((z.1 = y.1) ∧
        ((z.2 = y.2) ∧
        ((z.3 = y.3) ∧
        ((z.4 = y.4) ∧
        ((z.5 = y.5) ∧
        ((List.length o = (0 : Nat)) ∧
        ((z.6 = y.6) ∧
        ((z.7 = y.7) ∧
        ((z.8 = y.8) ∧
        ((z.9 = y.9) ∧
        ((Eq (α := List Value) (bCells o) ([])) ∧
        True))))))))))))))
        (br (decide ((0 : Int) ≤ (↑(0 : Nat) : Int) ∧ (0 : Int) ≤ IntKind.wrap IntKind.i64 (Int.ofNat (Int.toNat (↑(List.length l) : Int) - (1 : Nat)) - IntKind.wrap IntKind.i64 (cellI (bCells l) (0 : Nat))) ∧ IntKind.wrap IntKind.i64 (Int.ofNat (Int.toNat (↑(List.length l) : Int) - (1 : Nat)) - IntKind.wrap IntKind.i64 (cellI (bCells l) (0 : Nat))) ≤ (↑(Int.toNat (↑(List.length l) : Int) - (1 : Nat)) : Int)))
         (br (decide ((1 : Nat) + (Int.toNat (IntKind.wrap IntKind.i64 (Int.ofNat (Int.toNat (↑(List.length l) : Int) - (1 : Nat)) - IntKind.wrap IntKind.i64 (cellI (bCells l) (0 : Nat)))) - (0 : Nat)) * (1 : Nat) ≤ List.length (bCells l)))
          (br (allOne (List.take ((Int.toNat (IntKind.wrap IntKind.i64 (Int.ofNat (Int.toNat (↑(List.length l) : Int) - (1 : Nat)) - IntKind.wrap IntKind.i64 (cellI (bCells l) (0 : Nat)))) - (0 : Nat)) * (1 : Nat)) (List.drop (1 : Nat) (bCells l))))
           (br (decide (Int.toNat (IntKind.wrap IntKind.i64 (Int.ofNat (Int.toNat (↑(List.length l) : Int) - (1 : Nat)) - IntKind.wrap IntKind.i64 (cellI (bCells l) (0 : Nat)))) - (0 : Nat) ≤ (16777216 : Nat)))
            ((sc = (0 : Int)) ∧
            ((cd = (0 : Int)) ∧
            ((sn = (0 : Int)) ∧
            ((z.1 = y.1) ∧
            ((z.2 = y.2) ∧
            ((z.3 = (iand IntKind.i64 fl (1 : Int) != (0 : Int))) ∧
            ((z.4 = y.4) ∧
            ((z.5 = y.5) ∧
            (((0 : Nat) = (0 : Nat)) ∧
            ((List.length o = Int.toNat (IntKind.wrap IntKind.i64 (Int.ofNat (Int.toNat (↑(List.length l) : Int) - (1 : Nat)) - IntKind.wrap IntKind.i64 (cellI (bCells l) (0 : Nat)))) - (0 : Nat)) ∧
            ((z.6 = y.6) ∧
            ((z.7 = y.7) ∧
            ((z.8 = y.8) ∧
            ((z.9 = Int.ofNat (List.length l)) ∧
            ((Eq (α := List Value) (bCells o) (List.take ((Int.toNat (IntKind.wrap IntKind.i64 (Int.ofNat (Int.toNat (↑(List.length l) : Int) - (1 : Nat)) - IntKind.wrap IntKind.i64 (cellI (bCells l) (0 : Nat)))) - (0 : Nat)) * (1 : Nat)) (List.drop (1 : Nat) (bCells l)))) ∧
            ((Plain (bCells o)) ∧
            True))))))))))))))))
            False)
           False)
          False)
         False)))))))
       False)))
      False)
     False))) := by kernel_rfl
theorem Hea_vc (y z : PtY) (ty fl st sc cd sn : Int) (l o : List UInt8) : mcall EtSub noM 60 32 [.pointer (some ⟨0, 0, none⟩), .agg ⟨frCy ty fl st 1 l.length⟩] ⟨mkR (nums 0 [⟨ptC0 y, false, .cells false⟩, bRo l]), 2⟩ (retIsM 2 (.agg ⟨[.int .i64 sc, .int .i64 cd, .int .i64 sn]⟩) 3 [(0, ⟨ptC2 z 2 o.length, false, .cells false⟩), (2, bOwn o)]) =
  (br (iand IntKind.i64 fl (8 : Int) == (0 : Int))
   (br (iand IntKind.i64 fl (32 : Int) != (0 : Int))
    (br (decide (Int.ofNat (List.length l) < (5 : Int)))
     ((sc = (2 : Int)) ∧
     ((cd = (6 : Int)) ∧
     ((sn = (0 : Int)) ∧
     ((z.1 = y.1) ∧
     ((z.2 = y.2) ∧
     ((z.3 = y.3) ∧
     ((z.4 = y.4) ∧
     ((z.5 = y.5) ∧
     ((List.length o = (0 : Nat)) ∧
     ((z.6 = y.6) ∧
     ((z.7 = y.7) ∧
     ((z.8 = y.8) ∧
     ((z.9 = y.9) ∧
     ((Eq (α := List Value) (bCells o) ([])) ∧
     True))))))))))))))
     ((((((0 : Nat) + List.length l * (1 : Nat) ≤ List.length (bCells l) ∧ Plain (List.take (List.length l * (1 : Nat)) (List.drop (0 : Nat) (bCells l)))) ∧ True) ∧ ((True ∧ True) ∧ (True ∧ (IsB (Row.mk (List.take (List.length l * (1 : Nat)) (List.drop (0 : Nat) (bCells l))) true (Ob.cells true)) (List.length l) ∧ ((4 : Nat) ≤ List.length l ∧ List.length l ≤ (9223372036854775807 : Nat))))))) ∧
     ((Value.int IntKind.i64 st = Value.int IntKind.i64 st) ∧
     ((Value.int IntKind.i64 st = Value.int IntKind.i64 st) ∧
     (br (low4R (Row.mk (List.take (List.length l * (1 : Nat)) (List.drop (0 : Nat) (bCells l))) true (Ob.cells true)) == st)
      ((sc = (1 : Int)) ∧
      ((cd = (1 : Int)) ∧
      ((sn = st) ∧
      ((z.1 = y.1) ∧
      ((z.2 = y.2) ∧
      ((z.3 = y.3) ∧
      ((z.4 = y.4) ∧
      ((z.5 = y.5) ∧
      ((List.length o = (0 : Nat)) ∧
      ((z.6 = y.6) ∧
      ((z.7 = y.7) ∧
      ((z.8 = y.8) ∧
      ((z.9 = y.9) ∧
      ((Eq (α := List Value) (bCells o) ([])) ∧
      True))))))))))))))
      (br (decide ((0 : Int) ≤ (5 : Int) ∧ (5 : Int) ≤ (↑(List.length l) : Int) ∧ (↑(List.length l) : Int) ≤ (↑(List.length l) : Int)))
       (br (decide ((0 : Int) ≤ (↑(0 : Nat) : Int) ∧ (0 : Int) ≤ IntKind.wrap IntKind.i64 (Int.ofNat (Int.toNat (↑(List.length l) : Int) - (5 : Nat)) - (0 : Int)) ∧ IntKind.wrap IntKind.i64 (Int.ofNat (Int.toNat (↑(List.length l) : Int) - (5 : Nat)) - (0 : Int)) ≤ (↑(Int.toNat (↑(List.length l) : Int) - (5 : Nat)) : Int)))
        (br (decide ((5 : Nat) + (Int.toNat (IntKind.wrap IntKind.i64 (Int.ofNat (Int.toNat (↑(List.length l) : Int) - (5 : Nat)) - (0 : Int))) - (0 : Nat)) * (1 : Nat) ≤ List.length (bCells l)))
         (br (allOne (List.take ((Int.toNat (IntKind.wrap IntKind.i64 (Int.ofNat (Int.toNat (↑(List.length l) : Int) - (5 : Nat)) - (0 : Int))) - (0 : Nat)) * (1 : Nat)) (List.drop (5 : Nat) (bCells l))))
          (br (decide (Int.toNat (IntKind.wrap IntKind.i64 (Int.ofNat (Int.toNat (↑(List.length l) : Int) - (5 : Nat)) - (0 : Int))) - (0 : Nat) ≤ (16777216 : Nat)))
           ((sc = (0 : Int)) ∧
           ((cd = (0 : Int)) ∧
           ((sn = (0 : Int)) ∧
           ((z.1 = y.1) ∧
           ((z.2 = y.2) ∧
           ((z.3 = (iand IntKind.i64 fl (1 : Int) != (0 : Int))) ∧
           ((z.4 = (iand IntKind.i64 fl (4 : Int) != (0 : Int))) ∧
           ((z.5 = y.5) ∧
           (((0 : Nat) = (0 : Nat)) ∧
           ((List.length o = Int.toNat (IntKind.wrap IntKind.i64 (Int.ofNat (Int.toNat (↑(List.length l) : Int) - (5 : Nat)) - (0 : Int))) - (0 : Nat)) ∧
           ((z.6 = y.6) ∧
           ((z.7 = y.7) ∧
           ((z.8 = y.8) ∧
           ((z.9 = y.9) ∧
           ((Eq (α := List Value) (bCells o) (List.take ((Int.toNat (IntKind.wrap IntKind.i64 (Int.ofNat (Int.toNat (↑(List.length l) : Int) - (5 : Nat)) - (0 : Int))) - (0 : Nat)) * (1 : Nat)) (List.drop (5 : Nat) (bCells l)))) ∧
           ((Plain (bCells o)) ∧
           True))))))))))))))))
           False)
          False)
         False)
        False)
       False))))))
    (br (decide ((0 : Int) ≤ (↑(0 : Nat) : Int) ∧ (0 : Int) ≤ IntKind.wrap IntKind.i64 (Int.ofNat (List.length l) - (0 : Int)) ∧ IntKind.wrap IntKind.i64 (Int.ofNat (List.length l) - (0 : Int)) ≤ (↑(List.length l) : Int)))
     (br (decide ((0 : Nat) + (Int.toNat (IntKind.wrap IntKind.i64 (Int.ofNat (List.length l) - (0 : Int))) - (0 : Nat)) * (1 : Nat) ≤ List.length (bCells l)))
      (br (allOne (List.take ((Int.toNat (IntKind.wrap IntKind.i64 (Int.ofNat (List.length l) - (0 : Int))) - (0 : Nat)) * (1 : Nat)) (List.drop (0 : Nat) (bCells l))))
       (br (decide (Int.toNat (IntKind.wrap IntKind.i64 (Int.ofNat (List.length l) - (0 : Int))) - (0 : Nat) ≤ (16777216 : Nat)))
        ((sc = (0 : Int)) ∧
        ((cd = (0 : Int)) ∧
        ((sn = (0 : Int)) ∧
        ((z.1 = y.1) ∧
        ((z.2 = y.2) ∧
        ((z.3 = (iand IntKind.i64 fl (1 : Int) != (0 : Int))) ∧
        ((z.4 = (iand IntKind.i64 fl (4 : Int) != (0 : Int))) ∧
        ((z.5 = y.5) ∧
        (((0 : Nat) = (0 : Nat)) ∧
        ((List.length o = Int.toNat (IntKind.wrap IntKind.i64 (Int.ofNat (List.length l) - (0 : Int))) - (0 : Nat)) ∧
        ((z.6 = y.6) ∧
        ((z.7 = y.7) ∧
        ((z.8 = y.8) ∧
        ((z.9 = y.9) ∧
        ((Eq (α := List Value) (bCells o) (List.take ((Int.toNat (IntKind.wrap IntKind.i64 (Int.ofNat (List.length l) - (0 : Int))) - (0 : Nat)) * (1 : Nat)) (List.drop (0 : Nat) (bCells l)))) ∧
        ((Plain (bCells o)) ∧
        True))))))))))))))))
        False)
       False)
      False)
     False))
   (br (Int.ofNat (List.length l) == (0 : Int))
    ((sc = (2 : Int)) ∧
    ((cd = (6 : Int)) ∧
    ((sn = (0 : Int)) ∧
    ((z.1 = y.1) ∧
    ((z.2 = y.2) ∧
    ((z.3 = y.3) ∧
    ((z.4 = y.4) ∧
    ((z.5 = y.5) ∧
    ((List.length o = (0 : Nat)) ∧
    ((z.6 = y.6) ∧
    ((z.7 = y.7) ∧
    ((z.8 = y.8) ∧
    ((z.9 = y.9) ∧
    ((Eq (α := List Value) (bCells o) ([])) ∧
    True))))))))))))))
    (br (decide ((0 : Int) ≤ (1 : Int) ∧ (1 : Int) ≤ (↑(List.length l) : Int) ∧ (↑(List.length l) : Int) ≤ (↑(List.length l) : Int)))
     (br (decide ((0 : Int) ≤ (0 : Int) ∧ (0 : Int) < (↑(List.length l) : Int)))
      ((Eq (α := Option Value) ((bCells l)[(0 : Nat)]?) (some (Value.int IntKind.u8 (cellI (bCells l) (0 : Nat))))) ∧
      ((Value.slice (some (Addr.mk (1 : Nat) (0 : Nat) none)) (List.length l) (1 : Nat) = Value.slice (some (Addr.mk (1 : Nat) (0 : Nat) none)) (List.length l) (1 : Nat)) ∧
      (br (decide ((0 : Int) ≤ (1 : Int) ∧ (1 : Int) ≤ (↑(List.length l) : Int) ∧ (↑(List.length l) : Int) ≤ (↑(List.length l) : Int)))
       ((Value.slice (some (Addr.mk (1 : Nat) (1 : Nat) none)) (Int.toNat (↑(List.length l) : Int) - (1 : Nat)) (1 : Nat) = Value.slice (some (Addr.mk (1 : Nat) (1 : Nat) none)) (Int.toNat (↑(List.length l) : Int) - (1 : Nat)) (1 : Nat)) ∧
       ((Value.slice (some (Addr.mk (1 : Nat) (0 : Nat) none)) (List.length l) (1 : Nat) = Value.slice (some (Addr.mk (1 : Nat) (0 : Nat) none)) (List.length l) (1 : Nat)) ∧
       ((Eq (α := Option Value) ((bCells l)[(0 : Nat)]?) (some (Value.int IntKind.u8 (cellI (bCells l) (0 : Nat))))) ∧
       ((Value.int IntKind.u8 (cellI (bCells l) (0 : Nat)) = Value.int IntKind.u8 (cellI (bCells l) (0 : Nat))) ∧
       ((Value.int IntKind.i64 (IntKind.wrap IntKind.i64 (cellI (bCells l) (0 : Nat))) = Value.int IntKind.i64 (IntKind.wrap IntKind.i64 (cellI (bCells l) (0 : Nat)))) ∧
       (br (iand IntKind.i64 fl (32 : Int) != (0 : Int))
        (br (decide (Int.ofNat (Int.toNat (↑(List.length l) : Int) - (1 : Nat)) < (5 : Int)))
         ((sc = (2 : Int)) ∧
         ((cd = (6 : Int)) ∧
         ((sn = (0 : Int)) ∧
         ((z.1 = y.1) ∧
         ((z.2 = y.2) ∧
         ((z.3 = y.3) ∧
         ((z.4 = y.4) ∧
         ((z.5 = y.5) ∧
         ((List.length o = (0 : Nat)) ∧
         ((z.6 = y.6) ∧
         ((z.7 = y.7) ∧
         ((z.8 = y.8) ∧
         ((z.9 = y.9) ∧
         ((Eq (α := List Value) (bCells o) ([])) ∧
         True))))))))))))))
         ((((((1 : Nat) + (Int.toNat (↑(List.length l) : Int) - (1 : Nat)) * (1 : Nat) ≤ List.length (bCells l) ∧ Plain (List.take ((Int.toNat (↑(List.length l) : Int) - (1 : Nat)) * (1 : Nat)) (List.drop (1 : Nat) (bCells l)))) ∧ True) ∧ ((True ∧ True) ∧ (True ∧ (IsB (Row.mk (List.take ((Int.toNat (↑(List.length l) : Int) - (1 : Nat)) * (1 : Nat)) (List.drop (1 : Nat) (bCells l))) true (Ob.cells true)) (Int.toNat (↑(List.length l) : Int) - (1 : Nat)) ∧ ((4 : Nat) ≤ Int.toNat (↑(List.length l) : Int) - (1 : Nat) ∧ Int.toNat (↑(List.length l) : Int) - (1 : Nat) ≤ (9223372036854775807 : Nat))))))) ∧
         ((Value.int IntKind.i64 st = Value.int IntKind.i64 st) ∧
         ((Value.int IntKind.i64 st = Value.int IntKind.i64 st) ∧
         (br (low4R (Row.mk (List.take ((Int.toNat (↑(List.length l) : Int) - (1 : Nat)) * (1 : Nat)) (List.drop (1 : Nat) (bCells l))) true (Ob.cells true)) == st)
          ((sc = (1 : Int)) ∧
          ((cd = (1 : Int)) ∧
          ((sn = st) ∧
          ((z.1 = y.1) ∧
          ((z.2 = y.2) ∧
          ((z.3 = y.3) ∧
          ((z.4 = y.4) ∧
          ((z.5 = y.5) ∧
          ((List.length o = (0 : Nat)) ∧
          ((z.6 = y.6) ∧
          ((z.7 = y.7) ∧
          ((z.8 = y.8) ∧
          ((z.9 = y.9) ∧
          ((Eq (α := List Value) (bCells o) ([])) ∧
          True))))))))))))))
          (br (decide ((0 : Int) ≤ (5 : Int) ∧ (5 : Int) ≤ (↑(Int.toNat (↑(List.length l) : Int) - (1 : Nat)) : Int) ∧ (↑(Int.toNat (↑(List.length l) : Int) - (1 : Nat)) : Int) ≤ (↑(Int.toNat (↑(List.length l) : Int) - (1 : Nat)) : Int)))
           (br (decide (IntKind.wrap IntKind.i64 (cellI (bCells l) (0 : Nat)) > Int.ofNat (Int.toNat (↑(Int.toNat (↑(List.length l) : Int) - (1 : Nat)) : Int) - (5 : Nat))))
            ((sc = (2 : Int)) ∧
            ((cd = (1 : Int)) ∧
            ((sn = (0 : Int)) ∧
            ((z.1 = y.1) ∧
            ((z.2 = y.2) ∧
            ((z.3 = y.3) ∧
            ((z.4 = y.4) ∧
            ((z.5 = y.5) ∧
            ((List.length o = (0 : Nat)) ∧
            ((z.6 = y.6) ∧
            ((z.7 = y.7) ∧
            ((z.8 = y.8) ∧
            ((z.9 = y.9) ∧
            ((Eq (α := List Value) (bCells o) ([])) ∧
            True))))))))))))))
            (br (decide ((0 : Int) ≤ (↑(0 : Nat) : Int) ∧ (0 : Int) ≤ IntKind.wrap IntKind.i64 (Int.ofNat (Int.toNat (↑(Int.toNat (↑(List.length l) : Int) - (1 : Nat)) : Int) - (5 : Nat)) - IntKind.wrap IntKind.i64 (cellI (bCells l) (0 : Nat))) ∧ IntKind.wrap IntKind.i64 (Int.ofNat (Int.toNat (↑(Int.toNat (↑(List.length l) : Int) - (1 : Nat)) : Int) - (5 : Nat)) - IntKind.wrap IntKind.i64 (cellI (bCells l) (0 : Nat))) ≤ (↑(Int.toNat (↑(Int.toNat (↑(List.length l) : Int) - (1 : Nat)) : Int) - (5 : Nat)) : Int)))
             (br (decide ((6 : Nat) + (Int.toNat (IntKind.wrap IntKind.i64 (Int.ofNat (Int.toNat (↑(Int.toNat (↑(List.length l) : Int) - (1 : Nat)) : Int) - (5 : Nat)) - IntKind.wrap IntKind.i64 (cellI (bCells l) (0 : Nat)))) - (0 : Nat)) * (1 : Nat) ≤ List.length (bCells l)))
              (br (allOne (List.take ((Int.toNat (IntKind.wrap IntKind.i64 (Int.ofNat (Int.toNat (↑(Int.toNat (↑(List.length l) : Int) - (1 : Nat)) : Int) - (5 : Nat)) - IntKind.wrap IntKind.i64 (cellI (bCells l) (0 : Nat)))) - (0 : Nat)) * (1 : Nat)) (List.drop (6 : Nat) (bCells l))))
               (br (decide (Int.toNat (IntKind.wrap IntKind.i64 (Int.ofNat (Int.toNat (↑(Int.toNat (↑(List.length l) : Int) - (1 : Nat)) : Int) - (5 : Nat)) - IntKind.wrap IntKind.i64 (cellI (bCells l) (0 : Nat)))) - (0 : Nat) ≤ (16777216 : Nat)))
                ((sc = (0 : Int)) ∧
                ((cd = (0 : Int)) ∧
                ((sn = (0 : Int)) ∧
                ((z.1 = y.1) ∧
                ((z.2 = y.2) ∧
                ((z.3 = (iand IntKind.i64 fl (1 : Int) != (0 : Int))) ∧
                ((z.4 = (iand IntKind.i64 fl (4 : Int) != (0 : Int))) ∧
                ((z.5 = y.5) ∧
                (((0 : Nat) = (0 : Nat)) ∧
                ((List.length o = Int.toNat (IntKind.wrap IntKind.i64 (Int.ofNat (Int.toNat (↑(Int.toNat (↑(List.length l) : Int) - (1 : Nat)) : Int) - (5 : Nat)) - IntKind.wrap IntKind.i64 (cellI (bCells l) (0 : Nat)))) - (0 : Nat)) ∧
                ((z.6 = y.6) ∧
                ((z.7 = y.7) ∧
                ((z.8 = y.8) ∧
                ((z.9 = y.9) ∧
                ((Eq (α := List Value) (bCells o) (List.take ((Int.toNat (IntKind.wrap IntKind.i64 (Int.ofNat (Int.toNat (↑(Int.toNat (↑(List.length l) : Int) - (1 : Nat)) : Int) - (5 : Nat)) - IntKind.wrap IntKind.i64 (cellI (bCells l) (0 : Nat)))) - (0 : Nat)) * (1 : Nat)) (List.drop (6 : Nat) (bCells l)))) ∧
                ((Plain (bCells o)) ∧
                True))))))))))))))))
                False)
               False)
              False)
             False))
           False))))))
        (br (decide (IntKind.wrap IntKind.i64 (cellI (bCells l) (0 : Nat)) > Int.ofNat (Int.toNat (↑(List.length l) : Int) - (1 : Nat))))
         ((sc = (2 : Int)) ∧
         ((cd = (1 : Int)) ∧
         ((sn = (0 : Int)) ∧
         ((z.1 = y.1) ∧
         ((z.2 = y.2) ∧
         ((z.3 = y.3) ∧
         ((z.4 = y.4) ∧
         ((z.5 = y.5) ∧
         ((List.length o = (0 : Nat)) ∧
         ((z.6 = y.6) ∧
         ((z.7 = y.7) ∧
         ((z.8 = y.8) ∧
         ((z.9 = y.9) ∧
         ((Eq (α := List Value) (bCells o) ([])) ∧
         True))))))))))))))
         (br (decide ((0 : Int) ≤ (↑(0 : Nat) : Int) ∧ (0 : Int) ≤ IntKind.wrap IntKind.i64 (Int.ofNat (Int.toNat (↑(List.length l) : Int) - (1 : Nat)) - IntKind.wrap IntKind.i64 (cellI (bCells l) (0 : Nat))) ∧ IntKind.wrap IntKind.i64 (Int.ofNat (Int.toNat (↑(List.length l) : Int) - (1 : Nat)) - IntKind.wrap IntKind.i64 (cellI (bCells l) (0 : Nat))) ≤ (↑(Int.toNat (↑(List.length l) : Int) - (1 : Nat)) : Int)))
          (br (decide ((1 : Nat) + (Int.toNat (IntKind.wrap IntKind.i64 (Int.ofNat (Int.toNat (↑(List.length l) : Int) - (1 : Nat)) - IntKind.wrap IntKind.i64 (cellI (bCells l) (0 : Nat)))) - (0 : Nat)) * (1 : Nat) ≤ List.length (bCells l)))
           (br (allOne (List.take ((Int.toNat (IntKind.wrap IntKind.i64 (Int.ofNat (Int.toNat (↑(List.length l) : Int) - (1 : Nat)) - IntKind.wrap IntKind.i64 (cellI (bCells l) (0 : Nat)))) - (0 : Nat)) * (1 : Nat)) (List.drop (1 : Nat) (bCells l))))
            (br (decide (Int.toNat (IntKind.wrap IntKind.i64 (Int.ofNat (Int.toNat (↑(List.length l) : Int) - (1 : Nat)) - IntKind.wrap IntKind.i64 (cellI (bCells l) (0 : Nat)))) - (0 : Nat) ≤ (16777216 : Nat)))
             ((sc = (0 : Int)) ∧
             ((cd = (0 : Int)) ∧
             ((sn = (0 : Int)) ∧
             ((z.1 = y.1) ∧
             ((z.2 = y.2) ∧
             ((z.3 = (iand IntKind.i64 fl (1 : Int) != (0 : Int))) ∧
             ((z.4 = (iand IntKind.i64 fl (4 : Int) != (0 : Int))) ∧
             ((z.5 = y.5) ∧
             (((0 : Nat) = (0 : Nat)) ∧
             ((List.length o = Int.toNat (IntKind.wrap IntKind.i64 (Int.ofNat (Int.toNat (↑(List.length l) : Int) - (1 : Nat)) - IntKind.wrap IntKind.i64 (cellI (bCells l) (0 : Nat)))) - (0 : Nat)) ∧
             ((z.6 = y.6) ∧
             ((z.7 = y.7) ∧
             ((z.8 = y.8) ∧
             ((z.9 = y.9) ∧
             ((Eq (α := List Value) (bCells o) (List.take ((Int.toNat (IntKind.wrap IntKind.i64 (Int.ofNat (Int.toNat (↑(List.length l) : Int) - (1 : Nat)) - IntKind.wrap IntKind.i64 (cellI (bCells l) (0 : Nat)))) - (0 : Nat)) * (1 : Nat)) (List.drop (1 : Nat) (bCells l)))) ∧
             ((Plain (bCells o)) ∧
             True))))))))))))))))
             False)
            False)
           False)
          False))))))))
       False)))
      False)
     False))) := by kernel_rfl
theorem Res_vc (y z : PtY) (ty fl st sc cd sn : Int) (l : List UInt8) : mcall EtSub noM 60 34 [.pointer (some ⟨0, 0, none⟩), .agg ⟨frCy ty fl st 1 l.length⟩] ⟨mkR (nums 0 [⟨ptC0 y, false, .cells false⟩, bRo l]), 2⟩ (retIsM 2 (.agg ⟨[.int .i64 sc, .int .i64 cd, .int .i64 sn]⟩) 2 [(0, ⟨ptC0 z, false, .cells false⟩)]) =
  (br (Int.ofNat (List.length l) != (4 : Int))
   ((sc = (2 : Int)) ∧
   ((cd = (6 : Int)) ∧
   ((sn = (0 : Int)) ∧
   ((z.1 = y.1) ∧
   ((z.2 = y.2) ∧
   ((z.3 = y.3) ∧
   ((z.4 = y.4) ∧
   ((z.5 = y.5) ∧
   ((z.6 = y.6) ∧
   ((z.7 = y.7) ∧
   ((z.8 = y.8) ∧
   ((z.9 = y.9) ∧
   True))))))))))))
   ((((((0 : Nat) + List.length l * (1 : Nat) ≤ List.length (bCells l) ∧ Plain (List.take (List.length l * (1 : Nat)) (List.drop (0 : Nat) (bCells l)))) ∧ True) ∧ ((True ∧ True) ∧ (True ∧ (IsB (Row.mk (List.take (List.length l * (1 : Nat)) (List.drop (0 : Nat) (bCells l))) true (Ob.cells true)) (List.length l) ∧ ((4 : Nat) ≤ List.length l ∧ List.length l ≤ (9223372036854775807 : Nat))))))) ∧
   ((sc = (0 : Int)) ∧
   ((cd = (0 : Int)) ∧
   ((sn = (0 : Int)) ∧
   ((z.1 = y.1) ∧
   ((z.2 = y.2) ∧
   ((z.3 = y.3) ∧
   ((z.4 = y.4) ∧
   ((z.5 = y.5) ∧
   ((z.6 = num4R (Row.mk (List.take (List.length l * (1 : Nat)) (List.drop (0 : Nat) (bCells l))) true (Ob.cells true))) ∧
   ((z.7 = y.7) ∧
   ((z.8 = y.8) ∧
   ((z.9 = y.9) ∧
   True)))))))))))))) := by kernel_rfl
theorem Pin_vc (y z : PtY) (ty fl st sc cd sn : Int) (l o : List UInt8) : mcall EtSub noM 60 36 [.pointer (some ⟨0, 0, none⟩), .agg ⟨frCy ty fl st 1 l.length⟩] ⟨mkR (nums 0 [⟨ptC0 y, false, .cells false⟩, bRo l]), 2⟩ (retIsM 2 (.agg ⟨[.int .i64 sc, .int .i64 cd, .int .i64 sn]⟩) 3 [(0, ⟨ptC2 z 2 o.length, false, .cells false⟩), (2, bOwn o)]) =
  (br (Int.ofNat (List.length l) != (8 : Int))
   ((sc = (2 : Int)) ∧
   ((cd = (6 : Int)) ∧
   ((sn = (0 : Int)) ∧
   ((z.1 = y.1) ∧
   ((z.2 = y.2) ∧
   ((z.3 = y.3) ∧
   ((z.4 = y.4) ∧
   ((z.5 = y.5) ∧
   ((List.length o = (0 : Nat)) ∧
   ((z.6 = y.6) ∧
   ((z.7 = y.7) ∧
   ((z.8 = y.8) ∧
   ((z.9 = y.9) ∧
   ((Eq (α := List Value) (bCells o) ([])) ∧
   True))))))))))))))
   (br (decide ((0 : Nat) + List.length l * (1 : Nat) ≤ List.length (bCells l)))
    (br (allOne (List.take (List.length l * (1 : Nat)) (List.drop (0 : Nat) (bCells l))))
     (br (decide (List.length l ≤ (16777216 : Nat)))
      ((sc = (0 : Int)) ∧
      ((cd = (0 : Int)) ∧
      ((sn = (0 : Int)) ∧
      ((z.1 = y.1) ∧
      ((z.2 = y.2) ∧
      ((z.3 = y.3) ∧
      ((z.4 = y.4) ∧
      ((z.5 = (iand IntKind.i64 fl (1 : Int) != (0 : Int))) ∧
      (((0 : Nat) = (0 : Nat)) ∧
      ((List.length o = List.length l) ∧
      ((z.6 = y.6) ∧
      ((z.7 = y.7) ∧
      ((z.8 = y.8) ∧
      ((z.9 = y.9) ∧
      ((Eq (α := List Value) (bCells o) (List.take (List.length l * (1 : Nat)) (List.drop (0 : Nat) (bCells l)))) ∧
      ((Plain (bCells o)) ∧
      True))))))))))))))))
      False)
     False)
    False)) := by kernel_rfl
theorem GoA_vc (y z : PtY) (ty fl st sc cd sn : Int) (l o : List UInt8) : mcall EtSub noM 60 37 [.pointer (some ⟨0, 0, none⟩), .agg ⟨frCy ty fl st 1 l.length⟩] ⟨mkR (nums 0 [⟨ptC0 y, false, .cells false⟩, bRo l]), 2⟩ (retIsM 2 (.agg ⟨[.int .i64 sc, .int .i64 cd, .int .i64 sn]⟩) 3 [(0, ⟨ptC2 z 2 o.length, false, .cells false⟩), (2, bOwn o)]) =
  (br (decide (Int.ofNat (List.length l) < (8 : Int)))
   ((sc = (2 : Int)) ∧
   ((cd = (6 : Int)) ∧
   ((sn = (0 : Int)) ∧
   ((z.1 = y.1) ∧
   ((z.2 = y.2) ∧
   ((z.3 = y.3) ∧
   ((z.4 = y.4) ∧
   ((z.5 = y.5) ∧
   ((List.length o = (0 : Nat)) ∧
   ((z.6 = y.6) ∧
   ((z.7 = y.7) ∧
   ((z.8 = y.8) ∧
   ((z.9 = y.9) ∧
   ((Eq (α := List Value) (bCells o) ([])) ∧
   True))))))))))))))
   ((((((0 : Nat) + List.length l * (1 : Nat) ≤ List.length (bCells l) ∧ Plain (List.take (List.length l * (1 : Nat)) (List.drop (0 : Nat) (bCells l)))) ∧ True) ∧ ((True ∧ True) ∧ (True ∧ (IsB (Row.mk (List.take (List.length l * (1 : Nat)) (List.drop (0 : Nat) (bCells l))) true (Ob.cells true)) (List.length l) ∧ ((4 : Nat) ≤ List.length l ∧ List.length l ≤ (9223372036854775807 : Nat))))))) ∧
   (br (decide ((0 : Int) ≤ (4 : Int) ∧ (4 : Int) ≤ (↑(List.length l) : Int) ∧ (↑(List.length l) : Int) ≤ (↑(List.length l) : Int)))
    ((((((4 : Nat) + (Int.toNat (↑(List.length l) : Int) - (4 : Nat)) * (1 : Nat) ≤ List.length (bCells l) ∧ Plain (List.take ((Int.toNat (↑(List.length l) : Int) - (4 : Nat)) * (1 : Nat)) (List.drop (4 : Nat) (bCells l)))) ∧ True) ∧ ((True ∧ True) ∧ (True ∧ (IsB (Row.mk (List.take ((Int.toNat (↑(List.length l) : Int) - (4 : Nat)) * (1 : Nat)) (List.drop (4 : Nat) (bCells l))) true (Ob.cells true)) (Int.toNat (↑(List.length l) : Int) - (4 : Nat)) ∧ ((4 : Nat) ≤ Int.toNat (↑(List.length l) : Int) - (4 : Nat) ∧ Int.toNat (↑(List.length l) : Int) - (4 : Nat) ≤ (9223372036854775807 : Nat))))))) ∧
    (br (decide ((0 : Int) ≤ (8 : Int) ∧ (8 : Int) ≤ (↑(List.length l) : Int) ∧ (↑(List.length l) : Int) ≤ (↑(List.length l) : Int)))
     (br (decide ((8 : Nat) + (Int.toNat (↑(List.length l) : Int) - (8 : Nat)) * (1 : Nat) ≤ List.length (bCells l)))
      (br (allOne (List.take ((Int.toNat (↑(List.length l) : Int) - (8 : Nat)) * (1 : Nat)) (List.drop (8 : Nat) (bCells l))))
       (br (decide (Int.toNat (↑(List.length l) : Int) - (8 : Nat) ≤ (16777216 : Nat)))
        ((sc = (0 : Int)) ∧
        ((cd = (0 : Int)) ∧
        ((sn = (0 : Int)) ∧
        ((z.1 = y.1) ∧
        ((z.2 = y.2) ∧
        ((z.3 = y.3) ∧
        ((z.4 = y.4) ∧
        ((z.5 = y.5) ∧
        (((0 : Nat) = (0 : Nat)) ∧
        ((List.length o = Int.toNat (↑(List.length l) : Int) - (8 : Nat)) ∧
        ((z.6 = num4R (Row.mk (List.take ((Int.toNat (↑(List.length l) : Int) - (4 : Nat)) * (1 : Nat)) (List.drop (4 : Nat) (bCells l))) true (Ob.cells true))) ∧
        ((z.7 = low4R (Row.mk (List.take (List.length l * (1 : Nat)) (List.drop (0 : Nat) (bCells l))) true (Ob.cells true))) ∧
        ((z.8 = y.8) ∧
        ((z.9 = y.9) ∧
        ((Eq (α := List Value) (bCells o) (List.take ((Int.toNat (↑(List.length l) : Int) - (8 : Nat)) * (1 : Nat)) (List.drop (8 : Nat) (bCells l)))) ∧
        ((Plain (bCells o)) ∧
        True))))))))))))))))
        False)
       False)
      False)
     False))
    False))) := by kernel_rfl
theorem Win_vc (y z : PtY) (ty fl st sc cd sn : Int) (l : List UInt8) : mcall EtSub noM 60 38 [.pointer (some ⟨0, 0, none⟩), .agg ⟨frCy ty fl st 1 l.length⟩] ⟨mkR (nums 0 [⟨ptC0 y, false, .cells false⟩, bRo l]), 2⟩ (retIsM 2 (.agg ⟨[.int .i64 sc, .int .i64 cd, .int .i64 sn]⟩) 2 [(0, ⟨ptC0 z, false, .cells false⟩)]) =
  (br (Int.ofNat (List.length l) != (4 : Int))
   ((sc = (2 : Int)) ∧
   ((cd = (6 : Int)) ∧
   ((sn = (0 : Int)) ∧
   ((z.1 = y.1) ∧
   ((z.2 = y.2) ∧
   ((z.3 = y.3) ∧
   ((z.4 = y.4) ∧
   ((z.5 = y.5) ∧
   ((z.6 = y.6) ∧
   ((z.7 = y.7) ∧
   ((z.8 = y.8) ∧
   ((z.9 = y.9) ∧
   True))))))))))))
   ((((((0 : Nat) + List.length l * (1 : Nat) ≤ List.length (bCells l) ∧ Plain (List.take (List.length l * (1 : Nat)) (List.drop (0 : Nat) (bCells l)))) ∧ True) ∧ ((True ∧ True) ∧ (True ∧ (IsB (Row.mk (List.take (List.length l * (1 : Nat)) (List.drop (0 : Nat) (bCells l))) true (Ob.cells true)) (List.length l) ∧ ((4 : Nat) ≤ List.length l ∧ List.length l ≤ (9223372036854775807 : Nat))))))) ∧
   (br (decide (low4R (Row.mk (List.take (List.length l * (1 : Nat)) (List.drop (0 : Nat) (bCells l))) true (Ob.cells true)) > (0 : Int)))
    ((sc = (0 : Int)) ∧
    ((cd = (0 : Int)) ∧
    ((sn = (0 : Int)) ∧
    ((z.1 = y.1) ∧
    ((z.2 = y.2) ∧
    ((z.3 = y.3) ∧
    ((z.4 = y.4) ∧
    ((z.5 = y.5) ∧
    ((z.6 = y.6) ∧
    ((z.7 = y.7) ∧
    ((z.8 = low4R (Row.mk (List.take (List.length l * (1 : Nat)) (List.drop (0 : Nat) (bCells l))) true (Ob.cells true))) ∧
    ((z.9 = y.9) ∧
    True))))))))))))
    (br (st == (0 : Int))
     ((sc = (2 : Int)) ∧
     ((cd = (1 : Int)) ∧
     ((sn = (0 : Int)) ∧
     ((z.1 = y.1) ∧
     ((z.2 = y.2) ∧
     ((z.3 = y.3) ∧
     ((z.4 = y.4) ∧
     ((z.5 = y.5) ∧
     ((z.6 = y.6) ∧
     ((z.7 = y.7) ∧
     ((z.8 = low4R (Row.mk (List.take (List.length l * (1 : Nat)) (List.drop (0 : Nat) (bCells l))) true (Ob.cells true))) ∧
     ((z.9 = y.9) ∧
     True))))))))))))
     ((sc = (1 : Int)) ∧
     ((cd = (1 : Int)) ∧
     ((sn = st) ∧
     ((z.1 = y.1) ∧
     ((z.2 = y.2) ∧
     ((z.3 = y.3) ∧
     ((z.4 = y.4) ∧
     ((z.5 = y.5) ∧
     ((z.6 = y.6) ∧
     ((z.7 = y.7) ∧
     ((z.8 = low4R (Row.mk (List.take (List.length l * (1 : Nat)) (List.drop (0 : Nat) (bCells l))) true (Ob.cells true))) ∧
     ((z.9 = y.9) ∧
     True)))))))))))))))) := by kernel_rfl
theorem Pri_vc (ty fl st sc cd sn : Int) (l : List UInt8) : mcall EtSub noM 60 33 [.agg ⟨frCy ty fl st 0 l.length⟩] ⟨mkR (nums 0 [bRo l]), 1⟩ (retIs 1 (.agg ⟨[.int .i64 sc, .int .i64 cd, .int .i64 sn]⟩) [bRo l]) =
  (br (Int.ofNat (List.length l) != (5 : Int))
   ((sc = (1 : Int)) ∧
   ((cd = (6 : Int)) ∧
   ((sn = st) ∧
   ((Eq (α := List Value) (bCells l) (bCells l)) ∧
   ((Plain (bCells l)) ∧
   True)))))
   ((((((0 : Nat) + List.length l * (1 : Nat) ≤ List.length (bCells l) ∧ Plain (List.take (List.length l * (1 : Nat)) (List.drop (0 : Nat) (bCells l)))) ∧ True) ∧ ((True ∧ True) ∧ (True ∧ (IsB (Row.mk (List.take (List.length l * (1 : Nat)) (List.drop (0 : Nat) (bCells l))) true (Ob.cells true)) (List.length l) ∧ ((4 : Nat) ≤ List.length l ∧ List.length l ≤ (9223372036854775807 : Nat))))))) ∧
   ((Value.slice (some (Addr.mk (0 : Nat) (0 : Nat) none)) (List.length l) (1 : Nat) = Value.slice (some (Addr.mk (0 : Nat) (0 : Nat) none)) (List.length l) (1 : Nat)) ∧
   ((Value.int IntKind.i64 st = Value.int IntKind.i64 st) ∧
   ((Value.int IntKind.i64 st = Value.int IntKind.i64 st) ∧
   (br (low4R (Row.mk (List.take (List.length l * (1 : Nat)) (List.drop (0 : Nat) (bCells l))) true (Ob.cells true)) == st)
    ((sc = (1 : Int)) ∧
    ((cd = (1 : Int)) ∧
    ((sn = st) ∧
    ((Eq (α := List Value) (bCells l) (bCells l)) ∧
    ((Plain (bCells l)) ∧
    True)))))
    ((sc = (0 : Int)) ∧
    ((cd = (0 : Int)) ∧
    ((sn = (0 : Int)) ∧
    ((Eq (α := List Value) (bCells l) (bCells l)) ∧
    ((Plain (bCells l)) ∧
    True))))))))))) := by kernel_rfl
theorem eLow_ok : EntOk Try.prog eLow := entC_ok (by
  intro a rows p v news h hp
  split at h <;> simp only [Option.some.injEq, Prod.mk.injEq, reduceCtorEq] at h
  obtain ⟨rfl, rfl, rfl⟩ := h
  obtain ⟨⟨l, rfl, rfl⟩, h1, h2⟩ := hp
  simp only [low4R, dB_ro, List.append_nil]
  exact low_con l h1 h2)
theorem tSub_ok : ∀ x ∈ tSub, EntOk Try.prog x := all_cons eNum_ok (all_cons eLow_ok (all_nil))
theorem Dat_con (y : PtY) (ty fl st : Int) (l : List UInt8) (hl : l.length ≤ 16777216) : ConM Try.prog 31 [.pointer (some ⟨0, 0, none⟩), .agg ⟨frCy ty fl st 1 l.length⟩] [⟨ptC0 y, false, .cells false⟩, bRo l] (.agg ⟨[.int .i64 (dSc fl l), .int .i64 (dCd fl l), .int .i64 (0)]⟩) 3 [(0, ⟨ptC2 ⟨y.ty, y.st, if dSc fl l = 0 then bit fl 1 else y.e, y.f, y.a, y.co, y.la, y.mo, if dSc fl l = 0 then (l.length : Nat) else y.cs⟩ 2 (dBo fl l).length, false, .cells false⟩), (2, bOwn (dBo fl l))] := by
  refine conM_vc (E := EtSub) mixed (calls_envT tSub_ok) (lok_envT _ _) (M := noM) lm_none (Dat_vc y _ ty fl st _ _ _ l _) ?_
  simp only [ofNat_eq, toNat_cast, Nat.zero_add, Nat.add_zero, Nat.mul_one, List.drop_zero, bCells_len, bCells_drop, bCells_take, bCells_app, bCells_one, bCells_plain, List.length_replicate, List.length_append, List.length_take, List.length_drop, List.take_length, and_true, true_and, and_self, decide_true, List.length_nil, List.length_cons, Nat.sub_zero, dB_mk, dB_ro, List.take_zero]
  have hb : (iand .i64 fl 8 == 0) = !bit fl 8 := by unfold bit; simp [bne]
  have w0 : IntKind.i64.wrap ((l.length : Int) - 0) = (l.length : Int) := by rw [wr64_id (by unfold I64; omega)]; omega
  have b1 : (iand .i64 fl 1 != 0) = bit fl 1 := rfl
  rw [hb, b1]
  cases h8 : bit fl 8 with
  | false =>
    have p1 : padOk fl l = true := by unfold padOk; rw [h8]; rfl
    have p2 : padN fl l = 0 := by unfold padN; rw [h8]; rfl
    have p3 : padR fl l = l := by unfold padR; rw [h8]; rfl
    have e1 : dSc fl l = 0 := by unfold dSc; rw [p1, p2, p3]; simp
    have e2 : dCd fl l = 0 := by unfold dCd; rw [p1, p2, p3]; simp
    have e3 : dBo fl l = l := by unfold dBo; rw [if_pos e1, p2, p3]; simp
    simp only [Bool.not_false, br_tt0, w0, toNat_cast, e1, e2, e3, if_true, List.take_length]
    simp (disch := omega) only [brT]
    simp
  | true =>
    simp only [Bool.not_true, br_ff0]
    refine br_intro (fun h => ?_) (fun h => ?_)
    · have h : l = [] := List.eq_nil_of_length_eq_zero (by simp at h; simp [h])
      have p1 : padOk fl l = false := by unfold padOk; rw [h8, h]; rfl
      have e1 : dSc fl l = 2 := by unfold dSc; rw [p1]; rfl
      have e2 : dCd fl l = 6 := by unfold dCd; rw [p1]; rfl
      have e3 : dBo fl l = [] := by unfold dBo; rw [e1]; rfl
      simp only [e1, e2, e3]
      simp [bCells]
    · have h : 0 < l.length := by simp at h; exact List.length_pos_iff.2 h
      have p1 : padOk fl l = true := by unfold padOk; rw [h8, decide_eq_false (by omega)]; rfl
      have p2 : padN fl l = (l.getD 0 0).toNat := by unfold padN; rw [h8]; rfl
      have p3 : padR fl l = l.drop 1 := by unfold padR; rw [h8]; rfl
      have p4 : (l.drop 1).length = l.length - 1 := by simp
      obtain ⟨c1, c2⟩ := bGet l 0 h
      have kb := u8_lt (l.getD 0 0)
      have e1 : dSc fl l = if (l.getD 0 0).toNat > l.length - 1 then 2 else 0 := by unfold dSc; rw [p1, p2, p3, p4]; rfl
      have e2 : dCd fl l = if (l.getD 0 0).toNat > l.length - 1 then 1 else 0 := by unfold dCd; rw [p1, p2, p3, p4]; rfl
      have e3 : dBo fl l = if dSc fl l = 0 then (l.drop 1).take (l.length - 1 - (l.getD 0 0).toNat) else [] := by unfold dBo; rw [p2, p3, p4]
      have w1 : IntKind.i64.wrap (((l.getD 0 0).toNat : Nat) : Int) = (((l.getD 0 0).toNat : Nat) : Int) := wr64_id (by unfold I64; omega)
      simp only [c1, c2, w1, true_and]
      generalize (l.getD 0 0).toNat = a at *
      refine br_dec (by omega) (br_dec (by omega) (br_dec (by omega) (br_if (fun k => ?_) (fun k => ?_))))
      · have k : a > l.length - 1 := by omega
        rw [if_pos k] at e1 e2
        rw [e1] at e3
        simp only [e1, e2, e3]
        simp [bCells]
      · have k : ¬ a > l.length - 1 := by omega
        rw [if_neg k] at e1 e2
        rw [if_pos e1] at e3
        have w2 : IntKind.i64.wrap (((l.length - 1 : Nat) : Int) - (a : Int)) = ((l.length - 1 - a : Nat) : Int) := by rw [wr64_id (by unfold I64; omega)]; omega
        simp only [e1, e2, e3, w2, toNat_cast, if_true]
        simp (disch := omega) only [brT]
        simp [br_tt0]
theorem Hea_con (y : PtY) (ty fl st : Int) (l : List UInt8) (hl : l.length ≤ 16777216) : ConM Try.prog 32 [.pointer (some ⟨0, 0, none⟩), .agg ⟨frCy ty fl st 1 l.length⟩] [⟨ptC0 y, false, .cells false⟩, bRo l] (.agg ⟨[.int .i64 (hSc fl st l), .int .i64 (hCd fl st l), .int .i64 (hSn fl st l)]⟩) 3 [(0, ⟨ptC2 ⟨y.ty, y.st, if hSc fl st l = 0 then bit fl 1 else y.e, if hSc fl st l = 0 then bit fl 4 else y.f, y.a, y.co, y.la, y.mo, y.cs⟩ 2 (hBo fl st l).length, false, .cells false⟩), (2, bOwn (hBo fl st l))] := by
  refine conM_vc (E := EtSub) mixed (calls_envT tSub_ok) (lok_envT _ _) (M := noM) lm_none (Hea_vc y _ ty fl st _ _ _ l _) ?_
  simp only [ofNat_eq, toNat_cast, Nat.zero_add, Nat.add_zero, Nat.mul_one, List.drop_zero, bCells_len, bCells_drop, bCells_take, bCells_app, bCells_one, bCells_plain, List.length_replicate, List.length_append, List.length_take, List.length_drop, List.take_length, and_true, true_and, and_self, decide_true, List.length_nil, List.length_cons, Nat.sub_zero, dB_mk, dB_ro, List.take_zero]
  have hb : (iand .i64 fl 8 == 0) = !bit fl 8 := by unfold bit; simp [bne]
  have b1 : (iand .i64 fl 1 != 0) = bit fl 1 := rfl
  have b4 : (iand .i64 fl 4 != 0) = bit fl 4 := rfl
  have b32 : (iand .i64 fl 32 != 0) = bit fl 32 := rfl
  rw [hb, b1, b4, b32]
  have n4 : ∀ m : List UInt8, low4R ⟨bCells m, true, .cells true⟩ = (low4 m : Nat) := fun m => by unfold low4R; rw [dB_mk]
  have out : ∀ (sc cd : Int), hSc fl st l = sc → hCd fl st l = cd → sc ≠ 0 → (hSc fl st l = sc ∧ hCd fl st l = cd ∧ hSn fl st l = (if sc = 1 then st else 0) ∧ (if hSc fl st l = 0 then bit fl 1 else y.e) = y.e ∧ (if hSc fl st l = 0 then bit fl 4 else y.f) = y.f ∧ (hBo fl st l).length = 0 ∧ bCells (hBo fl st l) = []) := fun sc cd h1 h2 h3 => by
    have e3 : hBo fl st l = [] := by unfold hBo; rw [h1, if_neg h3]
    exact ⟨h1, h2, by unfold hSn; rw [h1], by rw [h1, if_neg h3], by rw [h1, if_neg h3], by rw [e3]; rfl, by rw [e3]; rfl⟩
  have good : ∀ (m : List UInt8) (k : Nat), hSc fl st l = 0 → hCd fl st l = 0 → hBo fl st l = m → k = m.length → (hSc fl st l = 0 ∧ hCd fl st l = 0 ∧ hSn fl st l = 0 ∧ (if hSc fl st l = 0 then bit fl 1 else y.e) = bit fl 1 ∧ (if hSc fl st l = 0 then bit fl 4 else y.f) = bit fl 4 ∧ (hBo fl st l).length = k ∧ bCells (hBo fl st l) = bCells m) := fun m k h1 h2 h3 h4 => by
    exact ⟨h1, h2, by unfold hSn; rw [h1]; rfl, by rw [if_pos h1], by rw [if_pos h1], by rw [h3, h4], by rw [h3]⟩
  have bo : hSc fl st l = 0 → hBo fl st l = (hRe fl l).take ((hRe fl l).length - padN fl l) := fun h => by unfold hBo; rw [if_pos h]
  cases h8 : bit fl 8 with
  | false =>
    have p1 : padOk fl l = true := by unfold padOk; rw [h8]; rfl
    have p2 : padN fl l = 0 := by unfold padN; rw [h8]; rfl
    have p3 : padR fl l = l := by unfold padR; rw [h8]; rfl
    simp only [Bool.not_false, br_tt0, n4]
    refine br_intro (fun h32 => ?_) (fun h32 => ?_)
    · have r1 : hRe fl l = l.drop 5 := by unfold hRe; rw [if_pos h32, p3]
      have es : hSc fl st l = if l.length < 5 then 2 else if (low4 l : Int) = st then 1 else 0 := by unfold hSc; rw [p1, if_pos rfl, if_pos h32, p3, p2]; simp
      have ec : hCd fl st l = if l.length < 5 then 6 else if (low4 l : Int) = st then 1 else 0 := by unfold hCd; rw [p1, if_pos rfl, if_pos h32, p3, p2]; simp
      refine br_if (fun h => ?_) (fun h => ⟨⟨Nat.le_refl _, isB_mk _ _ rfl, by omega, by omega⟩, br_intro (fun k => ?_) (fun k => ?_)⟩)
      · exact out 2 6 (by rw [es, if_pos (by omega)]) (by rw [ec, if_pos (by omega)]) (by omega)
      · have k : (low4 l : Int) = st := by simpa using k
        exact out 1 1 (by rw [es, if_neg (by omega), if_pos k]) (by rw [ec, if_neg (by omega), if_pos k]) (by omega)
      · have k : ¬ (low4 l : Int) = st := by simpa using k
        have es : hSc fl st l = 0 := by rw [es, if_neg (by omega), if_neg k]
        have ec : hCd fl st l = 0 := by rw [ec, if_neg (by omega), if_neg k]
        have w0 : IntKind.i64.wrap (((l.length - 5 : Nat) : Int) - 0) = ((l.length - 5 : Nat) : Int) := by rw [wr64_id (by unfold I64; omega)]; omega
        simp only [w0, toNat_cast]
        simp (disch := omega) only [brT]
        exact good _ _ es ec (by rw [bo es, r1, p2]; simp) (by simp)
    · have r1 : hRe fl l = l := by unfold hRe; rw [if_neg (by rw [h32]; simp), p3]
      have es : hSc fl st l = 0 := by unfold hSc; rw [p1, if_pos rfl, if_neg (by rw [h32]; simp), p2]; simp
      have ec : hCd fl st l = 0 := by unfold hCd; rw [p1, if_pos rfl, if_neg (by rw [h32]; simp), p2]; simp
      have w0 : IntKind.i64.wrap ((l.length : Int) - 0) = (l.length : Int) := by rw [wr64_id (by unfold I64; omega)]; omega
      simp only [w0, toNat_cast]
      simp (disch := omega) only [brT]
      exact good _ _ es ec (by rw [bo es, r1, p2]; simp) (by simp)
  | true =>
    simp only [Bool.not_true, br_ff0]
    refine br_intro (fun h => ?_) (fun h => ?_)
    · have h : l = [] := List.eq_nil_of_length_eq_zero (by simp at h; simp [h])
      have p1 : padOk fl l = false := by unfold padOk; rw [h8, h]; rfl
      exact out 2 6 (by unfold hSc; rw [p1]; rfl) (by unfold hCd; rw [p1]; rfl) (by omega)
    · have h : 0 < l.length := by simp at h; exact List.length_pos_iff.2 h
      have p1 : padOk fl l = true := by unfold padOk; rw [h8, decide_eq_false (by omega)]; rfl
      have p2 : padN fl l = (l.getD 0 0).toNat := by unfold padN; rw [h8]; rfl
      have p3 : padR fl l = l.drop 1 := by unfold padR; rw [h8]; rfl
      have p4 : (l.drop 1).length = l.length - 1 := by simp
      obtain ⟨c1, c2⟩ := bGet l 0 h
      have kb := u8_lt (l.getD 0 0)
      have w1 : IntKind.i64.wrap (((l.getD 0 0).toNat : Nat) : Int) = (((l.getD 0 0).toNat : Nat) : Int) := wr64_id (by unfold I64; omega)
      have tk : List.take (l.length - 1) (l.drop 1) = l.drop 1 := List.take_of_length_le (by simp)
      simp only [c1, c2, w1, true_and, tk, n4]
      generalize (l.getD 0 0).toNat = a at *
      refine br_dec (by omega) (br_dec (by omega) (br_dec (by omega) (br_intro (fun h32 => ?_) (fun h32 => ?_))))
      · have r1 : hRe fl l = l.drop 6 := by unfold hRe; rw [if_pos h32, p3, List.drop_drop]
        have rl : (hRe fl l).length = l.length - 6 := by rw [r1]; simp
        have es : hSc fl st l = if l.length - 1 < 5 then 2 else if (low4 (l.drop 1) : Int) = st then 1 else if a > l.length - 6 then 2 else 0 := by unfold hSc; rw [p1, if_pos rfl, if_pos h32, p3, p2, p4, rl]
        have ec : hCd fl st l = if l.length - 1 < 5 then 6 else if (low4 (l.drop 1) : Int) = st then 1 else if a > l.length - 6 then 1 else 0 := by unfold hCd; rw [p1, if_pos rfl, if_pos h32, p3, p2, p4, rl]
        refine br_if (fun q => ?_) (fun q => ⟨⟨by omega, isB_mk _ _ (by simp), by omega, by omega⟩, br_intro (fun k => ?_) (fun k => ?_)⟩)
        · exact out 2 6 (by rw [es, if_pos (by omega)]) (by rw [ec, if_pos (by omega)]) (by omega)
        · have k : (low4 (l.drop 1) : Int) = st := by simpa using k
          exact out 1 1 (by rw [es, if_neg (by omega), if_pos k]) (by rw [ec, if_neg (by omega), if_pos k]) (by omega)
        · have k : ¬ (low4 (l.drop 1) : Int) = st := by simpa using k
          rw [if_neg (by omega), if_neg k] at es ec
          refine br_dec (by omega) (br_if (fun k2 => ?_) (fun k2 => ?_))
          · exact out 2 1 (by rw [es, if_pos (by omega)]) (by rw [ec, if_pos (by omega)]) (by omega)
          · rw [if_neg (by omega)] at es ec
            have w0 : IntKind.i64.wrap (((l.length - 1 - 5 : Nat) : Int) - (a : Int)) = ((l.length - 6 - a : Nat) : Int) := by rw [wr64_id (by unfold I64; omega)]; omega
            simp only [w0, toNat_cast]
            simp (disch := omega) only [brT]
            exact good _ _ es ec (by rw [bo es, rl, r1, p2]) (by simp)
      · have r1 : hRe fl l = l.drop 1 := by unfold hRe; rw [if_neg (by rw [h32]; simp), p3]
        have rl : (hRe fl l).length = l.length - 1 := by rw [r1]; simp
        have es : hSc fl st l = if a > l.length - 1 then 2 else 0 := by unfold hSc; rw [p1, if_pos rfl, if_neg (by rw [h32]; simp), p2, rl]
        have ec : hCd fl st l = if a > l.length - 1 then 1 else 0 := by unfold hCd; rw [p1, if_pos rfl, if_neg (by rw [h32]; simp), p2, rl]
        refine br_if (fun k2 => ?_) (fun k2 => ?_)
        · exact out 2 1 (by rw [es, if_pos (by omega)]) (by rw [ec, if_pos (by omega)]) (by omega)
        · rw [if_neg (by omega)] at es ec
          have w0 : IntKind.i64.wrap (((l.length - 1 : Nat) : Int) - (a : Int)) = ((l.length - 1 - a : Nat) : Int) := by rw [wr64_id (by unfold I64; omega)]; omega
          simp only [w0, toNat_cast]
          simp (disch := omega) only [brT]
          exact good _ _ es ec (by rw [bo es, rl, r1, p2]) (by simp)
theorem Res_con (y : PtY) (ty fl st : Int) (l : List UInt8) (hl : l.length ≤ 16777216) : ConM Try.prog 34 [.pointer (some ⟨0, 0, none⟩), .agg ⟨frCy ty fl st 1 l.length⟩] [⟨ptC0 y, false, .cells false⟩, bRo l] (.agg ⟨[.int .i64 (lenE 4 l 2), .int .i64 (lenE 4 l 6), .int .i64 (0)]⟩) 2 [(0, ⟨ptC0 ⟨y.ty, y.st, y.e, y.f, y.a, reCo y.co l, y.la, y.mo, y.cs⟩, false, .cells false⟩)] := by
  refine conM_vc (E := EtSub) mixed (calls_envT tSub_ok) (lok_envT _ _) (M := noM) lm_none (Res_vc y _ ty fl st _ _ _ l) ?_
  simp only [ofNat_eq, toNat_cast, Nat.zero_add, Nat.add_zero, Nat.mul_one, List.drop_zero, bCells_len, bCells_drop, bCells_take, bCells_app, bCells_one, bCells_plain, List.length_replicate, List.length_append, List.length_take, List.length_drop, List.take_length, and_true, true_and, and_self, decide_true, List.length_nil, List.length_cons, Nat.sub_zero, dB_mk, dB_ro, List.take_zero]
  have n4 : num4R ⟨bCells l, true, .cells true⟩ = (num4 l : Nat) := by unfold num4R; rw [dB_mk]
  refine br_intro (fun h => ?_) (fun h => ?_)
  · have h : l.length ≠ 4 := by simp at h; omega
    exact ⟨by unfold lenE; rw [if_neg h], by unfold lenE; rw [if_neg h], by unfold reCo; rw [if_neg h]⟩
  · have h : l.length = 4 := by simp at h; omega
    exact ⟨⟨Nat.le_refl _, isB_mk _ _ rfl, by omega, by omega⟩, by unfold lenE; rw [if_pos h], by unfold lenE; rw [if_pos h], by unfold reCo; rw [if_pos h, n4]⟩
theorem Pin_con (y : PtY) (ty fl st : Int) (l : List UInt8) (hl : l.length ≤ 16777216) : ConM Try.prog 36 [.pointer (some ⟨0, 0, none⟩), .agg ⟨frCy ty fl st 1 l.length⟩] [⟨ptC0 y, false, .cells false⟩, bRo l] (.agg ⟨[.int .i64 (lenE 8 l 2), .int .i64 (lenE 8 l 6), .int .i64 (0)]⟩) 3 [(0, ⟨ptC2 ⟨y.ty, y.st, y.e, y.f, piAk y.a fl l, y.co, y.la, y.mo, y.cs⟩ 2 (piBo l).length, false, .cells false⟩), (2, bOwn (piBo l))] := by
  refine conM_vc (E := EtSub) mixed (calls_envT tSub_ok) (lok_envT _ _) (M := noM) lm_none (Pin_vc y _ ty fl st _ _ _ l _) ?_
  simp only [ofNat_eq, toNat_cast, Nat.zero_add, Nat.add_zero, Nat.mul_one, List.drop_zero, bCells_len, bCells_drop, bCells_take, bCells_app, bCells_one, bCells_plain, List.length_replicate, List.length_append, List.length_take, List.length_drop, List.take_length, and_true, true_and, and_self, decide_true, List.length_nil, List.length_cons, Nat.sub_zero, dB_mk, dB_ro, List.take_zero]
  refine br_intro (fun h => ?_) (fun h => ?_)
  · have h : l.length ≠ 8 := by simp at h; omega
    have e3 : piBo l = [] := by unfold piBo; rw [if_neg h]
    exact ⟨by unfold lenE; rw [if_neg h], by unfold lenE; rw [if_neg h], by unfold piAk; rw [if_neg h], by rw [e3]; rfl, by rw [e3]; rfl⟩
  · have h : l.length = 8 := by simp at h; omega
    have e3 : piBo l = l := by unfold piBo; rw [if_pos h]
    simp (disch := omega) only [brT, br_tt0]
    exact ⟨by unfold lenE; rw [if_pos h], by unfold lenE; rw [if_pos h], by unfold piAk; rw [if_pos h]; rfl, by rw [e3], by rw [e3]⟩
theorem GoA_con (y : PtY) (ty fl st : Int) (l : List UInt8) (hl : l.length ≤ 16777216) : ConM Try.prog 37 [.pointer (some ⟨0, 0, none⟩), .agg ⟨frCy ty fl st 1 l.length⟩] [⟨ptC0 y, false, .cells false⟩, bRo l] (.agg ⟨[.int .i64 (lenG 8 l 2), .int .i64 (lenG 8 l 6), .int .i64 (0)]⟩) 3 [(0, ⟨ptC2 ⟨y.ty, y.st, y.e, y.f, y.a, goCo y.co l, goLa y.la l, y.mo, y.cs⟩ 2 (goBo l).length, false, .cells false⟩), (2, bOwn (goBo l))] := by
  refine conM_vc (E := EtSub) mixed (calls_envT tSub_ok) (lok_envT _ _) (M := noM) lm_none (GoA_vc y _ ty fl st _ _ _ l _) ?_
  simp only [ofNat_eq, toNat_cast, Nat.zero_add, Nat.add_zero, Nat.mul_one, List.drop_zero, bCells_len, bCells_drop, bCells_take, bCells_app, bCells_one, bCells_plain, List.length_replicate, List.length_append, List.length_take, List.length_drop, List.take_length, and_true, true_and, and_self, decide_true, List.length_nil, List.length_cons, Nat.sub_zero, dB_mk, dB_ro, List.take_zero]
  have n4 : ∀ m : List UInt8, num4R ⟨bCells m, true, .cells true⟩ = (num4 m : Nat) := fun m => by unfold num4R; rw [dB_mk]
  have l4 : ∀ m : List UInt8, low4R ⟨bCells m, true, .cells true⟩ = (low4 m : Nat) := fun m => by unfold low4R; rw [dB_mk]
  refine br_if (fun h => ?_) (fun h => ?_)
  · have h : ¬ 8 ≤ l.length := by omega
    have e3 : goBo l = [] := by unfold goBo; rw [if_neg h]
    exact ⟨by unfold lenG; rw [if_neg h], by unfold lenG; rw [if_neg h], by rw [e3]; rfl, by unfold goCo; rw [if_neg h], by unfold goLa; rw [if_neg h], by rw [e3]; rfl⟩
  · have h : 8 ≤ l.length := by omega
    have e3 : goBo l = l.drop 8 := by unfold goBo; rw [if_pos h]
    have t4 : List.take (l.length - 4) (l.drop 4) = l.drop 4 := List.take_of_length_le (by simp)
    have t8 : List.take (l.length - 8) (l.drop 8) = l.drop 8 := List.take_of_length_le (by simp)
    simp (disch := omega) only [brT, br_tt0]
    rw [t4, t8, n4, l4]
    exact ⟨⟨Nat.le_refl _, isB_mk _ _ rfl, by omega, by omega⟩, ⟨by omega, isB_mk _ _ (by simp), by omega, by omega⟩, by unfold lenG; rw [if_pos h], by unfold lenG; rw [if_pos h], by rw [e3]; simp, by unfold goCo; rw [if_pos h], by unfold goLa; rw [if_pos h], by rw [e3]⟩
theorem Win_con (y : PtY) (ty fl st : Int) (l : List UInt8) (hl : l.length ≤ 16777216) : ConM Try.prog 38 [.pointer (some ⟨0, 0, none⟩), .agg ⟨frCy ty fl st 1 l.length⟩] [⟨ptC0 y, false, .cells false⟩, bRo l] (.agg ⟨[.int .i64 (wSc st l), .int .i64 (wCd st l), .int .i64 (wSn st l)]⟩) 2 [(0, ⟨ptC0 ⟨y.ty, y.st, y.e, y.f, y.a, y.co, y.la, wMo y.mo l, y.cs⟩, false, .cells false⟩)] := by
  refine conM_vc (E := EtSub) mixed (calls_envT tSub_ok) (lok_envT _ _) (M := noM) lm_none (Win_vc y _ ty fl st _ _ _ l) ?_
  simp only [ofNat_eq, toNat_cast, Nat.zero_add, Nat.add_zero, Nat.mul_one, List.drop_zero, bCells_len, bCells_drop, bCells_take, bCells_app, bCells_one, bCells_plain, List.length_replicate, List.length_append, List.length_take, List.length_drop, List.take_length, and_true, true_and, and_self, decide_true, List.length_nil, List.length_cons, Nat.sub_zero, dB_mk, dB_ro, List.take_zero]
  have l4 : low4R ⟨bCells l, true, .cells true⟩ = (low4 l : Nat) := by unfold low4R; rw [dB_mk]
  rw [l4]
  refine br_intro (fun h => ?_) (fun h => ⟨⟨Nat.le_refl _, isB_mk _ _ rfl, by simp at h; omega, by omega⟩, br_if (fun k => ?_) (fun k => br_intro (fun k2 => ?_) (fun k2 => ?_))⟩)
  · have h : l.length ≠ 4 := by simp at h; omega
    have e1 : wSc st l = 2 := by unfold wSc; rw [if_pos h]
    exact ⟨e1, by unfold wCd; rw [if_pos h], by unfold wSn; rw [e1]; rfl, by unfold wMo; rw [if_neg h]⟩
  all_goals
    have h : l.length = 4 := by simp at h; omega
    have hm : wMo y.mo l = (low4 l : Nat) := by unfold wMo; rw [if_pos h]
  · have k : low4 l > 0 := by omega
    have e1 : wSc st l = 0 := by unfold wSc; rw [if_neg (by omega), if_pos k]
    exact ⟨e1, by unfold wCd; rw [if_neg (by omega), if_pos k], by unfold wSn; rw [e1]; rfl, hm⟩
  · have k : ¬ low4 l > 0 := by omega
    have k2 : st = 0 := by simpa using k2
    have e1 : wSc st l = 2 := by unfold wSc; rw [if_neg (by omega), if_neg k, if_pos k2]
    exact ⟨e1, by unfold wCd; rw [if_neg (by omega), if_neg k], by unfold wSn; rw [e1]; rfl, hm⟩
  · have k : ¬ low4 l > 0 := by omega
    have k2 : ¬ st = 0 := by simpa using k2
    have e1 : wSc st l = 1 := by unfold wSc; rw [if_neg (by omega), if_neg k, if_neg k2]
    exact ⟨e1, by unfold wCd; rw [if_neg (by omega), if_neg k], by unfold wSn; rw [e1]; rfl, hm⟩
theorem Pri_con (ty fl st : Int) (l : List UInt8) (hl : l.length ≤ 16777216) : Con Try.prog 33 [.agg ⟨frCy ty fl st 0 l.length⟩] [bRo l] (.agg ⟨[.int .i64 (pSc st l), .int .i64 (pCd st l), .int .i64 (pSn st l)]⟩) [bRo l] := by
  refine con_vc (E := EtSub) mixed (calls_envT tSub_ok) (lok_envT _ _) (M := noM) lm_none (Pri_vc ty fl st _ _ _ l) ?_
  simp only [ofNat_eq, toNat_cast, Nat.zero_add, Nat.add_zero, Nat.mul_one, List.drop_zero, bCells_len, bCells_drop, bCells_take, bCells_app, bCells_one, bCells_plain, List.length_replicate, List.length_append, List.length_take, List.length_drop, List.take_length, and_true, true_and, and_self, decide_true, List.length_nil, List.length_cons, Nat.sub_zero, dB_mk, dB_ro, List.take_zero]
  have l4 : low4R ⟨bCells l, true, .cells true⟩ = (low4 l : Nat) := by unfold low4R; rw [dB_mk]
  rw [l4]
  refine br_intro (fun h => ?_) (fun h => ⟨⟨Nat.le_refl _, isB_mk _ _ rfl, by simp at h; omega, by omega⟩, br_intro (fun k => ?_) (fun k => ?_)⟩)
  · have h : l.length ≠ 5 := by simp at h; omega
    have e1 : pSc st l = 1 := by unfold pSc; rw [if_pos h]
    exact ⟨e1, by unfold pCd; rw [if_pos h], by unfold pSn; rw [e1]; rfl⟩
  all_goals
    have h : ¬ l.length ≠ 5 := by simp at h; omega
  · have k : (low4 l : Int) = st := by simpa using k
    have e1 : pSc st l = 1 := by unfold pSc; rw [if_neg h, if_pos k]
    exact ⟨e1, by unfold pCd; rw [if_neg h, if_pos k], by unfold pSn; rw [e1]; rfl⟩
  · have k : ¬ (low4 l : Int) = st := by simpa using k
    have e1 : pSc st l = 0 := by unfold pSc; rw [if_neg h, if_neg k]
    exact ⟨e1, by unfold pCd; rw [if_neg h, if_neg k], by unfold pSn; rw [e1]; rfl⟩
end Go.Proofs.Ytagahikocoggcaa.sh
