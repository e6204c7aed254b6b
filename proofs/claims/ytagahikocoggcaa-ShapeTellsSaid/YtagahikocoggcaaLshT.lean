/- The document's own words on frames: settings, what is long, a frame's part. -/
import Derived.Test.YtagahikocoggcaaSz9
import Derived.Test.YtagahikocoggcaaRows
import Derived.Test.YtagahikocoggcaaLshR
set_option maxRecDepth 20000
set_option linter.unusedSimpArgs false
set_option linter.unusedVariables false
namespace Go.Proofs.Ytagahikocoggcaa.sh
open Go Go.Ev Go.Sy Go.RowKit Go.Proofs.Ytagahikocoggcaa.gl
def yz : PtY := ⟨0, 0, false, false, false, 0, 0, 0, 0⟩
def pRt : List Nat := [0, 1, 0, 1, 1, 1, 1]
def slRt (g : GSet) (s : StSet) : List (Nat × Value) := [(3, .pointer (some ⟨1, 0, none⟩)), (4, .pointer (some ⟨2, 0, none⟩)), (5, .pointer (some ⟨3, 0, none⟩)), (6, .slice (some ⟨0, 0, none⟩) g.l.length 1), (7, .int .i64 ((6 * s.i : Nat) : Int))]
def rlRt0 (g : GSet) (acc : List Se) : List (Nat × Row) := [(0, bRo g.l), (1, ⟨ptC1 g.y 4 acc.length, false, .cells false⟩), (2, ⟨ptC0 yz, false, .cells false⟩), (3, e28 0 0), (4, gOwn seC acc)]
def rlRt (g : GSet) (s : StSet) : List (Nat × Row) := rlRt0 g s.acc
def wsRt (g : GSet) : List (Gate Unit) := [⟨.exit 0, fun _ => seErr (sets g.l) = 0, fun _ => [(3, .pointer (some ⟨1, 0, none⟩)), (4, .pointer (some ⟨2, 0, none⟩)), (5, .pointer (some ⟨3, 0, none⟩))], fun _ => rlRt0 g (seGood (sets g.l)), 5⟩, ⟨.ret, fun _ => seErr (sets g.l) ≠ 0, fun _ => [(4, .pointer (some ⟨2, 0, none⟩)), (5, .pointer (some ⟨3, 0, none⟩))], fun _ => [(0, bRo g.l), (2, ⟨ptC0 yz, false, .cells false⟩), (3, e28 2 (seErr (sets g.l)))], 5⟩]
def specRt : Sy.Spec := specOf 1 5 74 (fun g : GSet => g.l.length % 6 = 0 ∧ g.l.length ≤ 16777216) (fun g => slRt g ⟨0, []⟩) (fun g => rlRt g ⟨0, []⟩) wsRt
def mRt := mOf [(30, pRt, specRt)]
def okI (sc x : Int) : Int := if sc = 0 then x else 0
def okZ (sc : Int) (x : Bool) : Bool := if sc = 0 then x else false
def okL {α : Type} (sc : Int) (l : List α) : List α := if sc = 0 then l else []
def okY (sc : Int) (y : PtY) : PtY := ⟨okI sc y.ty, okI sc y.st, okZ sc y.e, okZ sc y.f, okZ sc y.a, okI sc y.co, okI sc y.la, okI sc y.mo, okI sc y.cs⟩
def rsI (x fl : Int) (r : Row) : Int := okI (stSc fl (dB r)) x
def rsB (x : Bool) (fl : Int) (r : Row) : Bool := okZ (stSc fl (dB r)) x
def rsN (fl : Int) (r : Row) : Nat := (okL (stSc fl (dB r)) (stSe fl (dB r))).length
def rsC (fl : Int) (r : Row) : List Value := gC seC (okL (stSc fl (dB r)) (stSe fl (dB r)))
noncomputable def eRst : EntM := entC 30 fun a r => match a, r with
  | [.agg ⟨[.int .i64 ty, .int .i64 fl, .int .i64 st, .slice (some ⟨0, 0, none⟩) n 1]⟩, .agg ⟨[.int .i64 t2, .int .i64 s2, .bool e, .bool f, .bool ak, .slice none 0 0, .int .i64 co, .int .i64 la, .int .i64 mo, .int .i64 cs, .slice none 0 0]⟩], [r0] => some (IsB r0 n ∧ n ≤ 16777216, .tuple #[.agg ⟨[.int .i64 (rsI t2 fl r0), .int .i64 (rsI s2 fl r0), .bool (rsB e fl r0), .bool (rsB f fl r0), .bool (rsB (bit fl 1) fl r0), .slice none 0 0, .int .i64 (rsI co fl r0), .int .i64 (rsI la fl r0), .int .i64 (rsI mo fl r0), .int .i64 (rsI cs fl r0), .slice (some ⟨1, 0, none⟩) (rsN fl r0) 2]⟩, .agg ⟨[.int .i64 (stScR fl r0), .int .i64 (stCdR fl r0), .int .i64 0]⟩], [⟨rsC fl r0, false, .cells true⟩])
  | _, _ => none
def lSc (ty fl st : Int) (l : List UInt8) : Int := if ty = 0 then dSc fl l else hSc fl st l
def lCd (ty fl st : Int) (l : List UInt8) : Int := if ty = 0 then dCd fl l else hCd fl st l
def lSn (ty fl st : Int) (l : List UInt8) : Int := if ty = 0 then 0 else hSn fl st l
def lBo (ty fl st : Int) (l : List UInt8) : List UInt8 := if ty = 0 then dBo fl l else hBo fl st l
def lY (ty fl st : Int) (l : List UInt8) (y : PtY) : PtY := okY (lSc ty fl st l) ⟨y.ty, y.st, bit fl 1, if ty = 0 then y.f else bit fl 4, y.a, y.co, y.la, y.mo, if ty = 0 then (l.length : Nat) else y.cs⟩
def lI (x ty fl st : Int) (r : Row) : Int := okI (lSc ty fl st (dB r)) x
def lZ (x : Bool) (ty fl st : Int) (r : Row) : Bool := okZ (lSc ty fl st (dB r)) x
def lE (ty fl st : Int) (r : Row) : Bool := okZ (lSc ty fl st (dB r)) (bit fl 1)
def lF (x : Bool) (ty fl st : Int) (r : Row) : Bool := okZ (lSc ty fl st (dB r)) (if ty = 0 then x else bit fl 4)
def lCs (x ty fl st : Int) (r : Row) : Int := okI (lSc ty fl st (dB r)) (if ty = 0 then ((dB r).length : Nat) else x)
def lScR (ty fl st : Int) (r : Row) : Int := lSc ty fl st (dB r)
def lCdR (ty fl st : Int) (r : Row) : Int := lCd ty fl st (dB r)
def lSnR (ty fl st : Int) (r : Row) : Int := lSn ty fl st (dB r)
def lBn (ty fl st : Int) (r : Row) : Nat := (lBo ty fl st (dB r)).length
def lBc (ty fl st : Int) (r : Row) : List Value := bCells (lBo ty fl st (dB r))
def Ty01 (ty : Int) : Prop := ty = 0 ∨ ty = 1
noncomputable def eLong : EntM := entC 27 fun a r => match a, r with
  | [.agg ⟨[.int .i64 ty, .int .i64 fl, .int .i64 st, .slice (some ⟨0, 0, none⟩) n 1]⟩, .agg ⟨[.int .i64 t2, .int .i64 s2, .bool e, .bool f, .bool ak, .slice none 0 0, .int .i64 co, .int .i64 la, .int .i64 mo, .int .i64 cs, .slice none 0 0]⟩], [r0] => some (IsB r0 n ∧ n ≤ 16777216 ∧ Ty01 ty, .tuple #[.agg ⟨[.int .i64 (lI t2 ty fl st r0), .int .i64 (lI s2 ty fl st r0), .bool (lE ty fl st r0), .bool (lF f ty fl st r0), .bool (lZ ak ty fl st r0), .slice (some ⟨1, 0, none⟩) (lBn ty fl st r0) 1, .int .i64 (lI co ty fl st r0), .int .i64 (lI la ty fl st r0), .int .i64 (lI mo ty fl st r0), .int .i64 (lCs cs ty fl st r0), .slice none 0 0]⟩, .agg ⟨[.int .i64 (lScR ty fl st r0), .int .i64 (lCdR ty fl st r0), .int .i64 (lSnR ty fl st r0)]⟩], [⟨lBc ty fl st r0, false, .cells true⟩])
  | _, _ => none
noncomputable def tRlg : List EntM := [eFour]
noncomputable abbrev EtRlg : Env := envT Try.prog tRlg
def ptL (y : PtY) (rb nb : Nat) : List Value := [.int .i64 y.ty, .int .i64 y.st, .bool y.e, .bool y.f, .bool y.a, .slice (some ⟨rb, 0, none⟩) nb 1, .int .i64 y.co, .int .i64 y.la, .int .i64 y.mo, .int .i64 y.cs, .slice none 0 0]
theorem Rt_round (g : GSet) (s : StSet) (Inv : StSet → Prop) (m : StSet → Nat) : mev EtRset noM 60 30 (0 :: pRt) false (codeOf Try.prog 30 (0 :: pRt)) ⟨mkOv (slRt g s), 74, []⟩ none ⟨mkR (rlRt g s), 5⟩ (roundK 1 5 74 Inv m (slRt g) (rlRt g) (wsRt g) s) =
  (br (decide ((↑((6 : Nat) * s.1) : Int) < Int.ofNat (List.length g.1)))
   (br (decide ((0 : Int) ≤ (↑((6 : Nat) * s.1) : Int) ∧ (↑((6 : Nat) * s.1) : Int) < (↑(List.length g.1) : Int)))
    ((Eq (α := Option Value) ((bCells g.1)[(0 : Nat) + Int.toNat (↑((6 : Nat) * s.1) : Int) * (1 : Nat)]?) (some (Value.int IntKind.u8 (cellI (bCells g.1) ((0 : Nat) + Int.toNat (↑((6 : Nat) * s.1) : Int) * (1 : Nat)))))) ∧
    (br (decide ((0 : Int) ≤ IntKind.wrap IntKind.i64 ((↑((6 : Nat) * s.1) : Int) + (1 : Int)) ∧ IntKind.wrap IntKind.i64 ((↑((6 : Nat) * s.1) : Int) + (1 : Int)) < (↑(List.length g.1) : Int)))
     ((Eq (α := Option Value) ((bCells g.1)[(0 : Nat) + Int.toNat (IntKind.wrap IntKind.i64 ((↑((6 : Nat) * s.1) : Int) + (1 : Int))) * (1 : Nat)]?) (some (Value.int IntKind.u8 (cellI (bCells g.1) ((0 : Nat) + Int.toNat (IntKind.wrap IntKind.i64 ((↑((6 : Nat) * s.1) : Int) + (1 : Int))) * (1 : Nat)))))) ∧
     (br (decide ((0 : Int) ≤ IntKind.wrap IntKind.i64 ((↑((6 : Nat) * s.1) : Int) + (2 : Int)) ∧ IntKind.wrap IntKind.i64 ((↑((6 : Nat) * s.1) : Int) + (2 : Int)) ≤ (↑(List.length g.1) : Int) ∧ (↑(List.length g.1) : Int) ≤ (↑(List.length g.1) : Int)))
      ((((((0 : Nat) + Int.toNat (IntKind.wrap IntKind.i64 ((↑((6 : Nat) * s.1) : Int) + (2 : Int))) * (1 : Nat) + (Int.toNat (↑(List.length g.1) : Int) - Int.toNat (IntKind.wrap IntKind.i64 ((↑((6 : Nat) * s.1) : Int) + (2 : Int)))) * (1 : Nat) ≤ List.length (bCells g.1) ∧ Plain (List.take ((Int.toNat (↑(List.length g.1) : Int) - Int.toNat (IntKind.wrap IntKind.i64 ((↑((6 : Nat) * s.1) : Int) + (2 : Int)))) * (1 : Nat)) (List.drop ((0 : Nat) + Int.toNat (IntKind.wrap IntKind.i64 ((↑((6 : Nat) * s.1) : Int) + (2 : Int))) * (1 : Nat)) (bCells g.1)))) ∧ True) ∧ ((True ∧ True) ∧ (True ∧ (IsB (Row.mk (List.take ((Int.toNat (↑(List.length g.1) : Int) - Int.toNat (IntKind.wrap IntKind.i64 ((↑((6 : Nat) * s.1) : Int) + (2 : Int)))) * (1 : Nat)) (List.drop ((0 : Nat) + Int.toNat (IntKind.wrap IntKind.i64 ((↑((6 : Nat) * s.1) : Int) + (2 : Int))) * (1 : Nat)) (bCells g.1))) true (Ob.cells true)) (Int.toNat (↑(List.length g.1) : Int) - Int.toNat (IntKind.wrap IntKind.i64 ((↑((6 : Nat) * s.1) : Int) + (2 : Int)))) ∧ ((4 : Nat) ≤ Int.toNat (↑(List.length g.1) : Int) - Int.toNat (IntKind.wrap IntKind.i64 ((↑((6 : Nat) * s.1) : Int) + (2 : Int))) ∧ Int.toNat (↑(List.length g.1) : Int) - Int.toNat (IntKind.wrap IntKind.i64 ((↑((6 : Nat) * s.1) : Int) + (2 : Int))) ≤ (9223372036854775807 : Nat))))))) ∧
      ((Eq (α := Option Value) ((bCells g.1)[(0 : Nat) + Int.toNat (↑((6 : Nat) * s.1) : Int) * (1 : Nat)]?) (some (Value.int IntKind.u8 (cellI (bCells g.1) ((0 : Nat) + Int.toNat (↑((6 : Nat) * s.1) : Int) * (1 : Nat)))))) ∧
      ((Value.int IntKind.u8 (cellI (bCells g.1) ((0 : Nat) + Int.toNat (↑((6 : Nat) * s.1) : Int) * (1 : Nat))) = Value.int IntKind.u8 (cellI (bCells g.1) ((0 : Nat) + Int.toNat (↑((6 : Nat) * s.1) : Int) * (1 : Nat)))) ∧
      ((Eq (α := Option Value) ((bCells g.1)[(0 : Nat) + Int.toNat (↑((6 : Nat) * s.1) : Int) * (1 : Nat)]?) (some (Value.int IntKind.u8 (cellI (bCells g.1) ((0 : Nat) + Int.toNat (↑((6 : Nat) * s.1) : Int) * (1 : Nat)))))) ∧
      ((Value.int IntKind.u8 (cellI (bCells g.1) ((0 : Nat) + Int.toNat (↑((6 : Nat) * s.1) : Int) * (1 : Nat))) = Value.int IntKind.u8 (cellI (bCells g.1) ((0 : Nat) + Int.toNat (↑((6 : Nat) * s.1) : Int) * (1 : Nat)))) ∧
      ((Value.int IntKind.i64 (IntKind.wrap IntKind.i64 (cellI (bCells g.1) ((0 : Nat) + Int.toNat (↑((6 : Nat) * s.1) : Int) * (1 : Nat)))) = Value.int IntKind.i64 (IntKind.wrap IntKind.i64 (cellI (bCells g.1) ((0 : Nat) + Int.toNat (↑((6 : Nat) * s.1) : Int) * (1 : Nat))))) ∧
      ((Value.int IntKind.i64 (IntKind.wrap IntKind.i64 (cellI (bCells g.1) ((0 : Nat) + Int.toNat (↑((6 : Nat) * s.1) : Int) * (1 : Nat)))) = Value.int IntKind.i64 (IntKind.wrap IntKind.i64 (cellI (bCells g.1) ((0 : Nat) + Int.toNat (↑((6 : Nat) * s.1) : Int) * (1 : Nat))))) ∧
      ((Eq (α := Option Value) ((bCells g.1)[(0 : Nat) + Int.toNat (IntKind.wrap IntKind.i64 ((↑((6 : Nat) * s.1) : Int) + (1 : Int))) * (1 : Nat)]?) (some (Value.int IntKind.u8 (cellI (bCells g.1) ((0 : Nat) + Int.toNat (IntKind.wrap IntKind.i64 ((↑((6 : Nat) * s.1) : Int) + (1 : Int))) * (1 : Nat)))))) ∧
      ((Value.int IntKind.u8 (cellI (bCells g.1) ((0 : Nat) + Int.toNat (IntKind.wrap IntKind.i64 ((↑((6 : Nat) * s.1) : Int) + (1 : Int))) * (1 : Nat))) = Value.int IntKind.u8 (cellI (bCells g.1) ((0 : Nat) + Int.toNat (IntKind.wrap IntKind.i64 ((↑((6 : Nat) * s.1) : Int) + (1 : Int))) * (1 : Nat)))) ∧
      ((Eq (α := Option Value) ((bCells g.1)[(0 : Nat) + Int.toNat (IntKind.wrap IntKind.i64 ((↑((6 : Nat) * s.1) : Int) + (1 : Int))) * (1 : Nat)]?) (some (Value.int IntKind.u8 (cellI (bCells g.1) ((0 : Nat) + Int.toNat (IntKind.wrap IntKind.i64 ((↑((6 : Nat) * s.1) : Int) + (1 : Int))) * (1 : Nat)))))) ∧
      ((Value.int IntKind.u8 (cellI (bCells g.1) ((0 : Nat) + Int.toNat (IntKind.wrap IntKind.i64 ((↑((6 : Nat) * s.1) : Int) + (1 : Int))) * (1 : Nat))) = Value.int IntKind.u8 (cellI (bCells g.1) ((0 : Nat) + Int.toNat (IntKind.wrap IntKind.i64 ((↑((6 : Nat) * s.1) : Int) + (1 : Int))) * (1 : Nat)))) ∧
      ((Value.int IntKind.i64 (IntKind.wrap IntKind.i64 (cellI (bCells g.1) ((0 : Nat) + Int.toNat (IntKind.wrap IntKind.i64 ((↑((6 : Nat) * s.1) : Int) + (1 : Int))) * (1 : Nat)))) = Value.int IntKind.i64 (IntKind.wrap IntKind.i64 (cellI (bCells g.1) ((0 : Nat) + Int.toNat (IntKind.wrap IntKind.i64 ((↑((6 : Nat) * s.1) : Int) + (1 : Int))) * (1 : Nat))))) ∧
      ((Value.int IntKind.i64 (IntKind.wrap IntKind.i64 (cellI (bCells g.1) ((0 : Nat) + Int.toNat (IntKind.wrap IntKind.i64 ((↑((6 : Nat) * s.1) : Int) + (1 : Int))) * (1 : Nat)))) = Value.int IntKind.i64 (IntKind.wrap IntKind.i64 (cellI (bCells g.1) ((0 : Nat) + Int.toNat (IntKind.wrap IntKind.i64 ((↑((6 : Nat) * s.1) : Int) + (1 : Int))) * (1 : Nat))))) ∧
      (br (decide ((0 : Int) ≤ IntKind.wrap IntKind.i64 ((↑((6 : Nat) * s.1) : Int) + (2 : Int)) ∧ IntKind.wrap IntKind.i64 ((↑((6 : Nat) * s.1) : Int) + (2 : Int)) ≤ (↑(List.length g.1) : Int) ∧ (↑(List.length g.1) : Int) ≤ (↑(List.length g.1) : Int)))
       ((Value.slice (some (Addr.mk (0 : Nat) ((0 : Nat) + Int.toNat (IntKind.wrap IntKind.i64 ((↑((6 : Nat) * s.1) : Int) + (2 : Int))) * (1 : Nat)) none)) (Int.toNat (↑(List.length g.1) : Int) - Int.toNat (IntKind.wrap IntKind.i64 ((↑((6 : Nat) * s.1) : Int) + (2 : Int)))) (1 : Nat) = Value.slice (some (Addr.mk (0 : Nat) ((0 : Nat) + Int.toNat (IntKind.wrap IntKind.i64 ((↑((6 : Nat) * s.1) : Int) + (2 : Int))) * (1 : Nat)) none)) (Int.toNat (↑(List.length g.1) : Int) - Int.toNat (IntKind.wrap IntKind.i64 ((↑((6 : Nat) * s.1) : Int) + (2 : Int)))) (1 : Nat)) ∧
       (((((True ∧ (True ∧ True)) ∧ True) ∧ (True ∧ (True ∧ True)))) ∧
       (br (valI (ior IntKind.i64 (ishl IntKind.i64 (IntKind.wrap IntKind.i64 (cellI (bCells g.1) ((0 : Nat) + Int.toNat (↑((6 : Nat) * s.1) : Int) * (1 : Nat)))) (8 : Int)) (IntKind.wrap IntKind.i64 (cellI (bCells g.1) ((0 : Nat) + Int.toNat (IntKind.wrap IntKind.i64 ((↑((6 : Nat) * s.1) : Int) + (1 : Int))) * (1 : Nat))))) (num4R (Row.mk (List.take ((Int.toNat (↑(List.length g.1) : Int) - Int.toNat (IntKind.wrap IntKind.i64 ((↑((6 : Nat) * s.1) : Int) + (2 : Int)))) * (1 : Nat)) (List.drop ((0 : Nat) + Int.toNat (IntKind.wrap IntKind.i64 ((↑((6 : Nat) * s.1) : Int) + (2 : Int))) * (1 : Nat)) (bCells g.1))) true (Ob.cells true))) != (0 : Int))
        (∃ y : Unit, ((seErr (sets g.1) ≠ (0 : Int)) ∧
        (((0 : Nat) = (0 : Nat)) ∧
        (((0 : Nat) = (0 : Nat)) ∧
        ((Eq (α := List Value) (bCells g.1) (bCells g.1)) ∧
        ((Plain (bCells g.1)) ∧
        (((0 : Int) = (0 : Int)) ∧
        (((0 : Int) = (0 : Int)) ∧
        ((false = false) ∧
        ((false = false) ∧
        ((false = false) ∧
        (((0 : Int) = (0 : Int)) ∧
        (((0 : Int) = (0 : Int)) ∧
        (((0 : Int) = (0 : Int)) ∧
        (((0 : Int) = (0 : Int)) ∧
        (((2 : Int) = (2 : Int)) ∧
        ((seErr (sets g.1) = valI (ior IntKind.i64 (ishl IntKind.i64 (IntKind.wrap IntKind.i64 (cellI (bCells g.1) ((0 : Nat) + Int.toNat (↑((6 : Nat) * s.1) : Int) * (1 : Nat)))) (8 : Int)) (IntKind.wrap IntKind.i64 (cellI (bCells g.1) ((0 : Nat) + Int.toNat (IntKind.wrap IntKind.i64 ((↑((6 : Nat) * s.1) : Int) + (1 : Int))) * (1 : Nat))))) (num4R (Row.mk (List.take ((Int.toNat (↑(List.length g.1) : Int) - Int.toNat (IntKind.wrap IntKind.i64 ((↑((6 : Nat) * s.1) : Int) + (2 : Int)))) * (1 : Nat)) (List.drop ((0 : Nat) + Int.toNat (IntKind.wrap IntKind.i64 ((↑((6 : Nat) * s.1) : Int) + (2 : Int))) * (1 : Nat)) (bCells g.1))) true (Ob.cells true)))) ∧
        (((0 : Int) = (0 : Int)) ∧
        True))))))))))))))))))
        (br (decide (List.length s.2 + (1 : Nat) ≤ (16777216 : Nat)))
         (br (decide ((0 : Nat) + List.length s.2 * (2 : Nat) ≤ List.length (gC seC s.2)))
          (∃ j : StSet, ((Inv j) ∧
          ((m j < m s) ∧
          (((0 : Nat) = (0 : Nat)) ∧
          (((0 : Nat) = (0 : Nat)) ∧
          (((0 : Nat) = (0 : Nat)) ∧
          (((0 : Nat) = (0 : Nat)) ∧
          ((List.length g.1 = List.length g.1) ∧
          (((↑((6 : Nat) * j.1) : Int) = IntKind.wrap IntKind.i64 ((↑((6 : Nat) * s.1) : Int) + (6 : Int))) ∧
          ((Eq (α := List Value) (bCells g.1) (bCells g.1)) ∧
          ((Plain (bCells g.1)) ∧
          ((g.2.1 = g.2.1) ∧
          ((g.2.2 = g.2.2) ∧
          ((g.2.3 = g.2.3) ∧
          ((g.2.4 = g.2.4) ∧
          ((g.2.5 = g.2.5) ∧
          ((g.2.6 = g.2.6) ∧
          ((g.2.7 = g.2.7) ∧
          ((g.2.8 = g.2.8) ∧
          ((g.2.9 = g.2.9) ∧
          (((0 : Nat) = (0 : Nat)) ∧
          ((List.length j.2 = List.length s.2 + (1 : Nat)) ∧
          (((0 : Int) = (0 : Int)) ∧
          (((0 : Int) = (0 : Int)) ∧
          ((false = false) ∧
          ((false = false) ∧
          ((false = false) ∧
          (((0 : Int) = (0 : Int)) ∧
          (((0 : Int) = (0 : Int)) ∧
          (((0 : Int) = (0 : Int)) ∧
          (((0 : Int) = (0 : Int)) ∧
          (((0 : Int) = (0 : Int)) ∧
          (((0 : Int) = (0 : Int)) ∧
          (((0 : Int) = (0 : Int)) ∧
          ((Eq (α := List Value) (gC seC j.2) (List.take (List.length s.2 * (2 : Nat)) (List.drop (0 : Nat) (gC seC s.2)) ++ [Value.int IntKind.i64 (ior IntKind.i64 (ishl IntKind.i64 (IntKind.wrap IntKind.i64 (cellI (bCells g.1) ((0 : Nat) + Int.toNat (↑((6 : Nat) * s.1) : Int) * (1 : Nat)))) (8 : Int)) (IntKind.wrap IntKind.i64 (cellI (bCells g.1) ((0 : Nat) + Int.toNat (IntKind.wrap IntKind.i64 ((↑((6 : Nat) * s.1) : Int) + (1 : Int))) * (1 : Nat))))), Value.int IntKind.i64 (num4R (Row.mk (List.take ((Int.toNat (↑(List.length g.1) : Int) - Int.toNat (IntKind.wrap IntKind.i64 ((↑((6 : Nat) * s.1) : Int) + (2 : Int)))) * (1 : Nat)) (List.drop ((0 : Nat) + Int.toNat (IntKind.wrap IntKind.i64 ((↑((6 : Nat) * s.1) : Int) + (2 : Int))) * (1 : Nat)) (bCells g.1))) true (Ob.cells true)))])) ∧
          ((Plain (gC seC j.2)) ∧
          True))))))))))))))))))))))))))))))))))))
          False)
         False))))
       False))))))))))))))
      False))
     False))
    False)
   (∃ y : Unit, ((seErr (sets g.1) = (0 : Int)) ∧
   (((0 : Nat) = (0 : Nat)) ∧
   (((0 : Nat) = (0 : Nat)) ∧
   (((0 : Nat) = (0 : Nat)) ∧
   ((Eq (α := List Value) (bCells g.1) (bCells g.1)) ∧
   ((Plain (bCells g.1)) ∧
   ((g.2.1 = g.2.1) ∧
   ((g.2.2 = g.2.2) ∧
   ((g.2.3 = g.2.3) ∧
   ((g.2.4 = g.2.4) ∧
   ((g.2.5 = g.2.5) ∧
   ((g.2.6 = g.2.6) ∧
   ((g.2.7 = g.2.7) ∧
   ((g.2.8 = g.2.8) ∧
   ((g.2.9 = g.2.9) ∧
   (((0 : Nat) = (0 : Nat)) ∧
   ((List.length (seGood (sets g.1)) = List.length s.2) ∧
   (((0 : Int) = (0 : Int)) ∧
   (((0 : Int) = (0 : Int)) ∧
   ((false = false) ∧
   ((false = false) ∧
   ((false = false) ∧
   (((0 : Int) = (0 : Int)) ∧
   (((0 : Int) = (0 : Int)) ∧
   (((0 : Int) = (0 : Int)) ∧
   (((0 : Int) = (0 : Int)) ∧
   (((0 : Int) = (0 : Int)) ∧
   (((0 : Int) = (0 : Int)) ∧
   (((0 : Int) = (0 : Int)) ∧
   ((Eq (α := List Value) (gC seC (seGood (sets g.1))) (gC seC s.2)) ∧
   ((Plain (gC seC (seGood (sets g.1)))) ∧
   True))))))))))))))))))))))))))))))))) := by kernel_rfl
theorem Rt_vc (y z : PtY) (ty fl st sc cd : Int) (l : List UInt8) (s : List Se) : mcall EtRset mRt 60 30 [.agg ⟨frCy ty fl st 0 l.length⟩, .agg ⟨ptC0 y⟩] ⟨mkR (nums 0 [bRo l]), 1⟩ (retIs 1 (.tuple #[.agg ⟨ptC1 z 1 s.length⟩, .agg ⟨[.int .i64 sc, .int .i64 cd, .int .i64 0]⟩]) [bRo l, gOwn seC s]) =
  (br (iand IntKind.i64 fl (1 : Int) != (0 : Int))
   (br (decide (Int.ofNat (List.length l) > (0 : Int)))
    ((z.1 = (0 : Int)) ∧
    ((z.2 = (0 : Int)) ∧
    ((z.3 = false) ∧
    ((z.4 = false) ∧
    ((z.5 = false) ∧
    ((z.6 = (0 : Int)) ∧
    ((z.7 = (0 : Int)) ∧
    ((z.8 = (0 : Int)) ∧
    ((z.9 = (0 : Int)) ∧
    ((List.length s = (0 : Nat)) ∧
    ((sc = (2 : Int)) ∧
    ((cd = (6 : Int)) ∧
    (((0 : Int) = (0 : Int)) ∧
    ((Eq (α := List Value) (bCells l) (bCells l)) ∧
    ((Plain (bCells l)) ∧
    ((Eq (α := List Value) (gC seC s) ([])) ∧
    True))))))))))))))))
    (br (Int.tmod (Int.ofNat (List.length l)) (6 : Int) != (0 : Int))
     ((z.1 = (0 : Int)) ∧
     ((z.2 = (0 : Int)) ∧
     ((z.3 = false) ∧
     ((z.4 = false) ∧
     ((z.5 = false) ∧
     ((z.6 = (0 : Int)) ∧
     ((z.7 = (0 : Int)) ∧
     ((z.8 = (0 : Int)) ∧
     ((z.9 = (0 : Int)) ∧
     ((List.length s = (0 : Nat)) ∧
     ((sc = (2 : Int)) ∧
     ((cd = (6 : Int)) ∧
     (((0 : Int) = (0 : Int)) ∧
     ((Eq (α := List Value) (bCells l) (bCells l)) ∧
     ((Plain (bCells l)) ∧
     ((Eq (α := List Value) (gC seC s) ([])) ∧
     True))))))))))))))))
     (∃ g : GSet, ((List.length g.1 % (6 : Nat) = (0 : Nat) ∧ List.length g.1 ≤ (16777216 : Nat)) ∧
     (((0 : Nat) = (0 : Nat)) ∧
     (((0 : Nat) = (0 : Nat)) ∧
     (((0 : Nat) = (0 : Nat)) ∧
     (((0 : Nat) = (0 : Nat)) ∧
     ((List.length g.1 = List.length l) ∧
     (((0 : Int) = (0 : Int)) ∧
     ((Eq (α := List Value) (bCells g.1) (bCells l)) ∧
     ((Plain (bCells g.1)) ∧
     ((g.2.1 = y.1) ∧
     ((g.2.2 = y.2) ∧
     ((g.2.3 = y.3) ∧
     ((g.2.4 = y.4) ∧
     ((g.2.5 = (iand IntKind.i64 fl (1 : Int) != (0 : Int))) ∧
     ((g.2.6 = y.6) ∧
     ((g.2.7 = y.7) ∧
     ((g.2.8 = y.8) ∧
     ((g.2.9 = y.9) ∧
     (((0 : Nat) = (0 : Nat)) ∧
     (((0 : Int) = (0 : Int)) ∧
     (((0 : Int) = (0 : Int)) ∧
     ((false = false) ∧
     ((false = false) ∧
     ((false = false) ∧
     (((0 : Int) = (0 : Int)) ∧
     (((0 : Int) = (0 : Int)) ∧
     (((0 : Int) = (0 : Int)) ∧
     (((0 : Int) = (0 : Int)) ∧
     (((0 : Int) = (0 : Int)) ∧
     (((0 : Int) = (0 : Int)) ∧
     (((0 : Int) = (0 : Int)) ∧
     ((Eq (α := List Value) ([]) ([])) ∧
     (∀ (side : Bool), (br (side)
      (∀ (y2 : Unit), ((seErr (sets g.1) = (0 : Int)) →
      ((z.1 = g.2.1) ∧
      ((z.2 = g.2.2) ∧
      ((z.3 = g.2.3) ∧
      ((z.4 = g.2.4) ∧
      ((z.5 = g.2.5) ∧
      ((z.6 = g.2.6) ∧
      ((z.7 = g.2.7) ∧
      ((z.8 = g.2.8) ∧
      ((z.9 = g.2.9) ∧
      (((0 : Nat) = (0 : Nat)) ∧
      ((List.length s = List.length (seGood (sets g.1))) ∧
      ((sc = (0 : Int)) ∧
      ((cd = (0 : Int)) ∧
      (((0 : Int) = (0 : Int)) ∧
      ((Eq (α := List Value) (bCells l) (bCells g.1)) ∧
      ((Plain (bCells l)) ∧
      ((Eq (α := List Value) (gC seC s) (gC seC (seGood (sets g.1)))) ∧
      ((Plain (gC seC s)) ∧
      True))))))))))))))))))))
      (∀ (y2 : Unit), ((seErr (sets g.1) ≠ (0 : Int)) →
      ((z.1 = (0 : Int)) ∧
      ((z.2 = (0 : Int)) ∧
      ((z.3 = false) ∧
      ((z.4 = false) ∧
      ((z.5 = false) ∧
      ((z.6 = (0 : Int)) ∧
      ((z.7 = (0 : Int)) ∧
      ((z.8 = (0 : Int)) ∧
      ((z.9 = (0 : Int)) ∧
      ((List.length s = (0 : Nat)) ∧
      ((sc = (2 : Int)) ∧
      ((cd = seErr (sets g.1)) ∧
      (((0 : Int) = (0 : Int)) ∧
      ((Eq (α := List Value) (bCells l) (bCells g.1)) ∧
      ((Plain (bCells l)) ∧
      ((Eq (α := List Value) (gC seC s) ([])) ∧
      True)))))))))))))))))))))))))))))))))))))))))))))))))))))))
   (br (Int.tmod (Int.ofNat (List.length l)) (6 : Int) != (0 : Int))
    ((z.1 = (0 : Int)) ∧
    ((z.2 = (0 : Int)) ∧
    ((z.3 = false) ∧
    ((z.4 = false) ∧
    ((z.5 = false) ∧
    ((z.6 = (0 : Int)) ∧
    ((z.7 = (0 : Int)) ∧
    ((z.8 = (0 : Int)) ∧
    ((z.9 = (0 : Int)) ∧
    ((List.length s = (0 : Nat)) ∧
    ((sc = (2 : Int)) ∧
    ((cd = (6 : Int)) ∧
    (((0 : Int) = (0 : Int)) ∧
    ((Eq (α := List Value) (bCells l) (bCells l)) ∧
    ((Plain (bCells l)) ∧
    ((Eq (α := List Value) (gC seC s) ([])) ∧
    True))))))))))))))))
    (∃ g : GSet, ((List.length g.1 % (6 : Nat) = (0 : Nat) ∧ List.length g.1 ≤ (16777216 : Nat)) ∧
    (((0 : Nat) = (0 : Nat)) ∧
    (((0 : Nat) = (0 : Nat)) ∧
    (((0 : Nat) = (0 : Nat)) ∧
    (((0 : Nat) = (0 : Nat)) ∧
    ((List.length g.1 = List.length l) ∧
    (((0 : Int) = (0 : Int)) ∧
    ((Eq (α := List Value) (bCells g.1) (bCells l)) ∧
    ((Plain (bCells g.1)) ∧
    ((g.2.1 = y.1) ∧
    ((g.2.2 = y.2) ∧
    ((g.2.3 = y.3) ∧
    ((g.2.4 = y.4) ∧
    ((g.2.5 = (iand IntKind.i64 fl (1 : Int) != (0 : Int))) ∧
    ((g.2.6 = y.6) ∧
    ((g.2.7 = y.7) ∧
    ((g.2.8 = y.8) ∧
    ((g.2.9 = y.9) ∧
    (((0 : Nat) = (0 : Nat)) ∧
    (((0 : Int) = (0 : Int)) ∧
    (((0 : Int) = (0 : Int)) ∧
    ((false = false) ∧
    ((false = false) ∧
    ((false = false) ∧
    (((0 : Int) = (0 : Int)) ∧
    (((0 : Int) = (0 : Int)) ∧
    (((0 : Int) = (0 : Int)) ∧
    (((0 : Int) = (0 : Int)) ∧
    (((0 : Int) = (0 : Int)) ∧
    (((0 : Int) = (0 : Int)) ∧
    (((0 : Int) = (0 : Int)) ∧
    ((Eq (α := List Value) ([]) ([])) ∧
    (∀ (side : Bool), (br (side)
     (∀ (y2 : Unit), ((seErr (sets g.1) = (0 : Int)) →
     ((z.1 = g.2.1) ∧
     ((z.2 = g.2.2) ∧
     ((z.3 = g.2.3) ∧
     ((z.4 = g.2.4) ∧
     ((z.5 = g.2.5) ∧
     ((z.6 = g.2.6) ∧
     ((z.7 = g.2.7) ∧
     ((z.8 = g.2.8) ∧
     ((z.9 = g.2.9) ∧
     (((0 : Nat) = (0 : Nat)) ∧
     ((List.length s = List.length (seGood (sets g.1))) ∧
     ((sc = (0 : Int)) ∧
     ((cd = (0 : Int)) ∧
     (((0 : Int) = (0 : Int)) ∧
     ((Eq (α := List Value) (bCells l) (bCells g.1)) ∧
     ((Plain (bCells l)) ∧
     ((Eq (α := List Value) (gC seC s) (gC seC (seGood (sets g.1)))) ∧
     ((Plain (gC seC s)) ∧
     True))))))))))))))))))))
     (∀ (y2 : Unit), ((seErr (sets g.1) ≠ (0 : Int)) →
     ((z.1 = (0 : Int)) ∧
     ((z.2 = (0 : Int)) ∧
     ((z.3 = false) ∧
     ((z.4 = false) ∧
     ((z.5 = false) ∧
     ((z.6 = (0 : Int)) ∧
     ((z.7 = (0 : Int)) ∧
     ((z.8 = (0 : Int)) ∧
     ((z.9 = (0 : Int)) ∧
     ((List.length s = (0 : Nat)) ∧
     ((sc = (2 : Int)) ∧
     ((cd = seErr (sets g.1)) ∧
     (((0 : Int) = (0 : Int)) ∧
     ((Eq (α := List Value) (bCells l) (bCells g.1)) ∧
     ((Plain (bCells l)) ∧
     ((Eq (α := List Value) (gC seC s) ([])) ∧
     True))))))))))))))))))))))))))))))))))))))))))))))))))))))) := by kernel_rfl
theorem Lg_vc (y z : PtY) (ty fl st sc cd sn : Int) (l o : List UInt8) : mcall EtRlg noM 60 27 [.agg ⟨frCy ty fl st 0 l.length⟩, .agg ⟨ptC0 y⟩] ⟨mkR (nums 0 [bRo l]), 1⟩ (retIs 1 (.tuple #[.agg ⟨ptL z 1 o.length⟩, .agg ⟨[.int .i64 sc, .int .i64 cd, .int .i64 sn]⟩]) [bRo l, bOwn o]) =
  (br (ty == (0 : Int))
   (br (iand IntKind.i64 fl (8 : Int) != (0 : Int))
    (br (Int.ofNat (List.length l) == (0 : Int))
     ((z.1 = (0 : Int)) ∧
     ((z.2 = (0 : Int)) ∧
     ((z.3 = false) ∧
     ((z.4 = false) ∧
     ((z.5 = false) ∧
     ((List.length o = (0 : Nat)) ∧
     ((z.6 = (0 : Int)) ∧
     ((z.7 = (0 : Int)) ∧
     ((z.8 = (0 : Int)) ∧
     ((z.9 = (0 : Int)) ∧
     ((sc = (2 : Int)) ∧
     ((cd = (6 : Int)) ∧
     ((sn = (0 : Int)) ∧
     ((Eq (α := List Value) (bCells l) (bCells l)) ∧
     ((Plain (bCells l)) ∧
     ((Eq (α := List Value) (bCells o) ([])) ∧
     True))))))))))))))))
     (br (decide ((0 : Int) ≤ (0 : Int) ∧ (0 : Int) < (↑(List.length l) : Int)))
      ((Eq (α := Option Value) ((bCells l)[(0 : Nat)]?) (some (Value.int IntKind.u8 (cellI (bCells l) (0 : Nat))))) ∧
      (br (decide ((0 : Int) ≤ (1 : Int) ∧ (1 : Int) ≤ (↑(List.length l) : Int) ∧ (↑(List.length l) : Int) ≤ (↑(List.length l) : Int)))
       (br (ty == (1 : Int))
        (br (iand IntKind.i64 fl (32 : Int) != (0 : Int))
         (br (decide (Int.ofNat (Int.toNat (↑(List.length l) : Int) - (1 : Nat)) < (5 : Int)))
          ((z.1 = (0 : Int)) ∧
          ((z.2 = (0 : Int)) ∧
          ((z.3 = false) ∧
          ((z.4 = false) ∧
          ((z.5 = false) ∧
          ((List.length o = (0 : Nat)) ∧
          ((z.6 = (0 : Int)) ∧
          ((z.7 = (0 : Int)) ∧
          ((z.8 = (0 : Int)) ∧
          ((z.9 = (0 : Int)) ∧
          ((sc = (2 : Int)) ∧
          ((cd = (6 : Int)) ∧
          ((sn = (0 : Int)) ∧
          ((Eq (α := List Value) (bCells l) (bCells l)) ∧
          ((Plain (bCells l)) ∧
          ((Eq (α := List Value) (bCells o) ([])) ∧
          True))))))))))))))))
          ((((((1 : Nat) + (Int.toNat (↑(List.length l) : Int) - (1 : Nat)) * (1 : Nat) ≤ List.length (bCells l) ∧ Plain (List.take ((Int.toNat (↑(List.length l) : Int) - (1 : Nat)) * (1 : Nat)) (List.drop (1 : Nat) (bCells l)))) ∧ True) ∧ ((True ∧ True) ∧ (True ∧ (IsB (Row.mk (List.take ((Int.toNat (↑(List.length l) : Int) - (1 : Nat)) * (1 : Nat)) (List.drop (1 : Nat) (bCells l))) true (Ob.cells true)) (Int.toNat (↑(List.length l) : Int) - (1 : Nat)) ∧ ((4 : Nat) ≤ Int.toNat (↑(List.length l) : Int) - (1 : Nat) ∧ Int.toNat (↑(List.length l) : Int) - (1 : Nat) ≤ (9223372036854775807 : Nat))))))) ∧
          ((Value.int IntKind.i64 st = Value.int IntKind.i64 st) ∧
          ((Value.int IntKind.i64 st = Value.int IntKind.i64 st) ∧
          (br (low4R (Row.mk (List.take ((Int.toNat (↑(List.length l) : Int) - (1 : Nat)) * (1 : Nat)) (List.drop (1 : Nat) (bCells l))) true (Ob.cells true)) == st)
           ((z.1 = (0 : Int)) ∧
           ((z.2 = (0 : Int)) ∧
           ((z.3 = false) ∧
           ((z.4 = false) ∧
           ((z.5 = false) ∧
           ((List.length o = (0 : Nat)) ∧
           ((z.6 = (0 : Int)) ∧
           ((z.7 = (0 : Int)) ∧
           ((z.8 = (0 : Int)) ∧
           ((z.9 = (0 : Int)) ∧
           ((sc = (1 : Int)) ∧
           ((cd = (1 : Int)) ∧
           ((sn = st) ∧
           ((Eq (α := List Value) (bCells l) (bCells l)) ∧
           ((Plain (bCells l)) ∧
           ((Eq (α := List Value) (bCells o) ([])) ∧
           True))))))))))))))))
           (br (decide ((0 : Int) ≤ (5 : Int) ∧ (5 : Int) ≤ (↑(Int.toNat (↑(List.length l) : Int) - (1 : Nat)) : Int) ∧ (↑(Int.toNat (↑(List.length l) : Int) - (1 : Nat)) : Int) ≤ (↑(Int.toNat (↑(List.length l) : Int) - (1 : Nat)) : Int)))
            (br (decide (IntKind.wrap IntKind.i64 (cellI (bCells l) (0 : Nat)) > Int.ofNat (Int.toNat (↑(Int.toNat (↑(List.length l) : Int) - (1 : Nat)) : Int) - (5 : Nat))))
             ((z.1 = (0 : Int)) ∧
             ((z.2 = (0 : Int)) ∧
             ((z.3 = false) ∧
             ((z.4 = false) ∧
             ((z.5 = false) ∧
             ((List.length o = (0 : Nat)) ∧
             ((z.6 = (0 : Int)) ∧
             ((z.7 = (0 : Int)) ∧
             ((z.8 = (0 : Int)) ∧
             ((z.9 = (0 : Int)) ∧
             ((sc = (2 : Int)) ∧
             ((cd = (1 : Int)) ∧
             ((sn = (0 : Int)) ∧
             ((Eq (α := List Value) (bCells l) (bCells l)) ∧
             ((Plain (bCells l)) ∧
             ((Eq (α := List Value) (bCells o) ([])) ∧
             True))))))))))))))))
             (br (decide ((0 : Int) ≤ (↑(0 : Nat) : Int) ∧ (0 : Int) ≤ IntKind.wrap IntKind.i64 (Int.ofNat (Int.toNat (↑(Int.toNat (↑(List.length l) : Int) - (1 : Nat)) : Int) - (5 : Nat)) - IntKind.wrap IntKind.i64 (cellI (bCells l) (0 : Nat))) ∧ IntKind.wrap IntKind.i64 (Int.ofNat (Int.toNat (↑(Int.toNat (↑(List.length l) : Int) - (1 : Nat)) : Int) - (5 : Nat)) - IntKind.wrap IntKind.i64 (cellI (bCells l) (0 : Nat))) ≤ (↑(Int.toNat (↑(Int.toNat (↑(List.length l) : Int) - (1 : Nat)) : Int) - (5 : Nat)) : Int)))
              (br (decide ((6 : Nat) + (Int.toNat (IntKind.wrap IntKind.i64 (Int.ofNat (Int.toNat (↑(Int.toNat (↑(List.length l) : Int) - (1 : Nat)) : Int) - (5 : Nat)) - IntKind.wrap IntKind.i64 (cellI (bCells l) (0 : Nat)))) - (0 : Nat)) * (1 : Nat) ≤ List.length (bCells l)))
               (br (allOne (List.take ((Int.toNat (IntKind.wrap IntKind.i64 (Int.ofNat (Int.toNat (↑(Int.toNat (↑(List.length l) : Int) - (1 : Nat)) : Int) - (5 : Nat)) - IntKind.wrap IntKind.i64 (cellI (bCells l) (0 : Nat)))) - (0 : Nat)) * (1 : Nat)) (List.drop (6 : Nat) (bCells l))))
                (br (decide ((0 : Nat) + (Int.toNat (IntKind.wrap IntKind.i64 (Int.ofNat (Int.toNat (↑(Int.toNat (↑(List.length l) : Int) - (1 : Nat)) : Int) - (5 : Nat)) - IntKind.wrap IntKind.i64 (cellI (bCells l) (0 : Nat)))) - (0 : Nat)) ≤ (16777216 : Nat)))
                 ((z.1 = y.1) ∧
                 ((z.2 = y.2) ∧
                 ((z.3 = (iand IntKind.i64 fl (1 : Int) != (0 : Int))) ∧
                 ((z.4 = y.4) ∧
                 ((z.5 = y.5) ∧
                 (((0 : Nat) = (0 : Nat)) ∧
                 ((List.length o = (0 : Nat) + (Int.toNat (IntKind.wrap IntKind.i64 (Int.ofNat (Int.toNat (↑(Int.toNat (↑(List.length l) : Int) - (1 : Nat)) : Int) - (5 : Nat)) - IntKind.wrap IntKind.i64 (cellI (bCells l) (0 : Nat)))) - (0 : Nat))) ∧
                 ((z.6 = y.6) ∧
                 ((z.7 = y.7) ∧
                 ((z.8 = y.8) ∧
                 ((z.9 = Int.ofNat (List.length l)) ∧
                 ((sc = (0 : Int)) ∧
                 ((cd = (0 : Int)) ∧
                 ((sn = (0 : Int)) ∧
                 ((Eq (α := List Value) (bCells l) (bCells l)) ∧
                 ((Plain (bCells l)) ∧
                 ((Eq (α := List Value) (bCells o) ([] ++ List.take ((Int.toNat (IntKind.wrap IntKind.i64 (Int.ofNat (Int.toNat (↑(Int.toNat (↑(List.length l) : Int) - (1 : Nat)) : Int) - (5 : Nat)) - IntKind.wrap IntKind.i64 (cellI (bCells l) (0 : Nat)))) - (0 : Nat)) * (1 : Nat)) (List.drop (6 : Nat) (bCells l)))) ∧
                 ((Plain (bCells o)) ∧
                 True))))))))))))))))))
                 False)
                False)
               False)
              False))
            False))))))
         (br (decide (IntKind.wrap IntKind.i64 (cellI (bCells l) (0 : Nat)) > Int.ofNat (Int.toNat (↑(List.length l) : Int) - (1 : Nat))))
          ((z.1 = (0 : Int)) ∧
          ((z.2 = (0 : Int)) ∧
          ((z.3 = false) ∧
          ((z.4 = false) ∧
          ((z.5 = false) ∧
          ((List.length o = (0 : Nat)) ∧
          ((z.6 = (0 : Int)) ∧
          ((z.7 = (0 : Int)) ∧
          ((z.8 = (0 : Int)) ∧
          ((z.9 = (0 : Int)) ∧
          ((sc = (2 : Int)) ∧
          ((cd = (1 : Int)) ∧
          ((sn = (0 : Int)) ∧
          ((Eq (α := List Value) (bCells l) (bCells l)) ∧
          ((Plain (bCells l)) ∧
          ((Eq (α := List Value) (bCells o) ([])) ∧
          True))))))))))))))))
          (br (decide ((0 : Int) ≤ (↑(0 : Nat) : Int) ∧ (0 : Int) ≤ IntKind.wrap IntKind.i64 (Int.ofNat (Int.toNat (↑(List.length l) : Int) - (1 : Nat)) - IntKind.wrap IntKind.i64 (cellI (bCells l) (0 : Nat))) ∧ IntKind.wrap IntKind.i64 (Int.ofNat (Int.toNat (↑(List.length l) : Int) - (1 : Nat)) - IntKind.wrap IntKind.i64 (cellI (bCells l) (0 : Nat))) ≤ (↑(Int.toNat (↑(List.length l) : Int) - (1 : Nat)) : Int)))
           (br (decide ((1 : Nat) + (Int.toNat (IntKind.wrap IntKind.i64 (Int.ofNat (Int.toNat (↑(List.length l) : Int) - (1 : Nat)) - IntKind.wrap IntKind.i64 (cellI (bCells l) (0 : Nat)))) - (0 : Nat)) * (1 : Nat) ≤ List.length (bCells l)))
            (br (allOne (List.take ((Int.toNat (IntKind.wrap IntKind.i64 (Int.ofNat (Int.toNat (↑(List.length l) : Int) - (1 : Nat)) - IntKind.wrap IntKind.i64 (cellI (bCells l) (0 : Nat)))) - (0 : Nat)) * (1 : Nat)) (List.drop (1 : Nat) (bCells l))))
             (br (decide ((0 : Nat) + (Int.toNat (IntKind.wrap IntKind.i64 (Int.ofNat (Int.toNat (↑(List.length l) : Int) - (1 : Nat)) - IntKind.wrap IntKind.i64 (cellI (bCells l) (0 : Nat)))) - (0 : Nat)) ≤ (16777216 : Nat)))
              ((z.1 = y.1) ∧
              ((z.2 = y.2) ∧
              ((z.3 = (iand IntKind.i64 fl (1 : Int) != (0 : Int))) ∧
              ((z.4 = y.4) ∧
              ((z.5 = y.5) ∧
              (((0 : Nat) = (0 : Nat)) ∧
              ((List.length o = (0 : Nat) + (Int.toNat (IntKind.wrap IntKind.i64 (Int.ofNat (Int.toNat (↑(List.length l) : Int) - (1 : Nat)) - IntKind.wrap IntKind.i64 (cellI (bCells l) (0 : Nat)))) - (0 : Nat))) ∧
              ((z.6 = y.6) ∧
              ((z.7 = y.7) ∧
              ((z.8 = y.8) ∧
              ((z.9 = Int.ofNat (List.length l)) ∧
              ((sc = (0 : Int)) ∧
              ((cd = (0 : Int)) ∧
              ((sn = (0 : Int)) ∧
              ((Eq (α := List Value) (bCells l) (bCells l)) ∧
              ((Plain (bCells l)) ∧
              ((Eq (α := List Value) (bCells o) ([] ++ List.take ((Int.toNat (IntKind.wrap IntKind.i64 (Int.ofNat (Int.toNat (↑(List.length l) : Int) - (1 : Nat)) - IntKind.wrap IntKind.i64 (cellI (bCells l) (0 : Nat)))) - (0 : Nat)) * (1 : Nat)) (List.drop (1 : Nat) (bCells l)))) ∧
              ((Plain (bCells o)) ∧
              True))))))))))))))))))
              False)
             False)
            False)
           False)))
        (br (decide (IntKind.wrap IntKind.i64 (cellI (bCells l) (0 : Nat)) > Int.ofNat (Int.toNat (↑(List.length l) : Int) - (1 : Nat))))
         ((z.1 = (0 : Int)) ∧
         ((z.2 = (0 : Int)) ∧
         ((z.3 = false) ∧
         ((z.4 = false) ∧
         ((z.5 = false) ∧
         ((List.length o = (0 : Nat)) ∧
         ((z.6 = (0 : Int)) ∧
         ((z.7 = (0 : Int)) ∧
         ((z.8 = (0 : Int)) ∧
         ((z.9 = (0 : Int)) ∧
         ((sc = (2 : Int)) ∧
         ((cd = (1 : Int)) ∧
         ((sn = (0 : Int)) ∧
         ((Eq (α := List Value) (bCells l) (bCells l)) ∧
         ((Plain (bCells l)) ∧
         ((Eq (α := List Value) (bCells o) ([])) ∧
         True))))))))))))))))
         (br (decide ((0 : Int) ≤ (↑(0 : Nat) : Int) ∧ (0 : Int) ≤ IntKind.wrap IntKind.i64 (Int.ofNat (Int.toNat (↑(List.length l) : Int) - (1 : Nat)) - IntKind.wrap IntKind.i64 (cellI (bCells l) (0 : Nat))) ∧ IntKind.wrap IntKind.i64 (Int.ofNat (Int.toNat (↑(List.length l) : Int) - (1 : Nat)) - IntKind.wrap IntKind.i64 (cellI (bCells l) (0 : Nat))) ≤ (↑(Int.toNat (↑(List.length l) : Int) - (1 : Nat)) : Int)))
          (br (decide ((1 : Nat) + (Int.toNat (IntKind.wrap IntKind.i64 (Int.ofNat (Int.toNat (↑(List.length l) : Int) - (1 : Nat)) - IntKind.wrap IntKind.i64 (cellI (bCells l) (0 : Nat)))) - (0 : Nat)) * (1 : Nat) ≤ List.length (bCells l)))
           (br (allOne (List.take ((Int.toNat (IntKind.wrap IntKind.i64 (Int.ofNat (Int.toNat (↑(List.length l) : Int) - (1 : Nat)) - IntKind.wrap IntKind.i64 (cellI (bCells l) (0 : Nat)))) - (0 : Nat)) * (1 : Nat)) (List.drop (1 : Nat) (bCells l))))
            (br (decide ((0 : Nat) + (Int.toNat (IntKind.wrap IntKind.i64 (Int.ofNat (Int.toNat (↑(List.length l) : Int) - (1 : Nat)) - IntKind.wrap IntKind.i64 (cellI (bCells l) (0 : Nat)))) - (0 : Nat)) ≤ (16777216 : Nat)))
             ((z.1 = y.1) ∧
             ((z.2 = y.2) ∧
             ((z.3 = (iand IntKind.i64 fl (1 : Int) != (0 : Int))) ∧
             ((z.4 = y.4) ∧
             ((z.5 = y.5) ∧
             (((0 : Nat) = (0 : Nat)) ∧
             ((List.length o = (0 : Nat) + (Int.toNat (IntKind.wrap IntKind.i64 (Int.ofNat (Int.toNat (↑(List.length l) : Int) - (1 : Nat)) - IntKind.wrap IntKind.i64 (cellI (bCells l) (0 : Nat)))) - (0 : Nat))) ∧
             ((z.6 = y.6) ∧
             ((z.7 = y.7) ∧
             ((z.8 = y.8) ∧
             ((z.9 = Int.ofNat (List.length l)) ∧
             ((sc = (0 : Int)) ∧
             ((cd = (0 : Int)) ∧
             ((sn = (0 : Int)) ∧
             ((Eq (α := List Value) (bCells l) (bCells l)) ∧
             ((Plain (bCells l)) ∧
             ((Eq (α := List Value) (bCells o) ([] ++ List.take ((Int.toNat (IntKind.wrap IntKind.i64 (Int.ofNat (Int.toNat (↑(List.length l) : Int) - (1 : Nat)) - IntKind.wrap IntKind.i64 (cellI (bCells l) (0 : Nat)))) - (0 : Nat)) * (1 : Nat)) (List.drop (1 : Nat) (bCells l)))) ∧
             ((Plain (bCells o)) ∧
             True))))))))))))))))))
             False)
            False)
           False)
          False)))
       False))
      False))
    (br (ty == (1 : Int))
     (br (iand IntKind.i64 fl (32 : Int) != (0 : Int))
      (br (decide (Int.ofNat (List.length l) < (5 : Int)))
       ((z.1 = (0 : Int)) ∧
       ((z.2 = (0 : Int)) ∧
       ((z.3 = false) ∧
       ((z.4 = false) ∧
       ((z.5 = false) ∧
       ((List.length o = (0 : Nat)) ∧
       ((z.6 = (0 : Int)) ∧
       ((z.7 = (0 : Int)) ∧
       ((z.8 = (0 : Int)) ∧
       ((z.9 = (0 : Int)) ∧
       ((sc = (2 : Int)) ∧
       ((cd = (6 : Int)) ∧
       ((sn = (0 : Int)) ∧
       ((Eq (α := List Value) (bCells l) (bCells l)) ∧
       ((Plain (bCells l)) ∧
       ((Eq (α := List Value) (bCells o) ([])) ∧
       True))))))))))))))))
       ((((((0 : Nat) + List.length l * (1 : Nat) ≤ List.length (bCells l) ∧ Plain (List.take (List.length l * (1 : Nat)) (List.drop (0 : Nat) (bCells l)))) ∧ True) ∧ ((True ∧ True) ∧ (True ∧ (IsB (Row.mk (List.take (List.length l * (1 : Nat)) (List.drop (0 : Nat) (bCells l))) true (Ob.cells true)) (List.length l) ∧ ((4 : Nat) ≤ List.length l ∧ List.length l ≤ (9223372036854775807 : Nat))))))) ∧
       ((Value.int IntKind.i64 st = Value.int IntKind.i64 st) ∧
       ((Value.int IntKind.i64 st = Value.int IntKind.i64 st) ∧
       (br (low4R (Row.mk (List.take (List.length l * (1 : Nat)) (List.drop (0 : Nat) (bCells l))) true (Ob.cells true)) == st)
        ((z.1 = (0 : Int)) ∧
        ((z.2 = (0 : Int)) ∧
        ((z.3 = false) ∧
        ((z.4 = false) ∧
        ((z.5 = false) ∧
        ((List.length o = (0 : Nat)) ∧
        ((z.6 = (0 : Int)) ∧
        ((z.7 = (0 : Int)) ∧
        ((z.8 = (0 : Int)) ∧
        ((z.9 = (0 : Int)) ∧
        ((sc = (1 : Int)) ∧
        ((cd = (1 : Int)) ∧
        ((sn = st) ∧
        ((Eq (α := List Value) (bCells l) (bCells l)) ∧
        ((Plain (bCells l)) ∧
        ((Eq (α := List Value) (bCells o) ([])) ∧
        True))))))))))))))))
        (br (decide ((0 : Int) ≤ (5 : Int) ∧ (5 : Int) ≤ (↑(List.length l) : Int) ∧ (↑(List.length l) : Int) ≤ (↑(List.length l) : Int)))
         (br (decide ((0 : Int) ≤ (↑(0 : Nat) : Int) ∧ (0 : Int) ≤ IntKind.wrap IntKind.i64 (Int.ofNat (Int.toNat (↑(List.length l) : Int) - (5 : Nat)) - (0 : Int)) ∧ IntKind.wrap IntKind.i64 (Int.ofNat (Int.toNat (↑(List.length l) : Int) - (5 : Nat)) - (0 : Int)) ≤ (↑(Int.toNat (↑(List.length l) : Int) - (5 : Nat)) : Int)))
          (br (decide ((5 : Nat) + (Int.toNat (IntKind.wrap IntKind.i64 (Int.ofNat (Int.toNat (↑(List.length l) : Int) - (5 : Nat)) - (0 : Int))) - (0 : Nat)) * (1 : Nat) ≤ List.length (bCells l)))
           (br (allOne (List.take ((Int.toNat (IntKind.wrap IntKind.i64 (Int.ofNat (Int.toNat (↑(List.length l) : Int) - (5 : Nat)) - (0 : Int))) - (0 : Nat)) * (1 : Nat)) (List.drop (5 : Nat) (bCells l))))
            (br (decide ((0 : Nat) + (Int.toNat (IntKind.wrap IntKind.i64 (Int.ofNat (Int.toNat (↑(List.length l) : Int) - (5 : Nat)) - (0 : Int))) - (0 : Nat)) ≤ (16777216 : Nat)))
             ((z.1 = y.1) ∧
             ((z.2 = y.2) ∧
             ((z.3 = (iand IntKind.i64 fl (1 : Int) != (0 : Int))) ∧
             ((z.4 = y.4) ∧
             ((z.5 = y.5) ∧
             (((0 : Nat) = (0 : Nat)) ∧
             ((List.length o = (0 : Nat) + (Int.toNat (IntKind.wrap IntKind.i64 (Int.ofNat (Int.toNat (↑(List.length l) : Int) - (5 : Nat)) - (0 : Int))) - (0 : Nat))) ∧
             ((z.6 = y.6) ∧
             ((z.7 = y.7) ∧
             ((z.8 = y.8) ∧
             ((z.9 = Int.ofNat (List.length l)) ∧
             ((sc = (0 : Int)) ∧
             ((cd = (0 : Int)) ∧
             ((sn = (0 : Int)) ∧
             ((Eq (α := List Value) (bCells l) (bCells l)) ∧
             ((Plain (bCells l)) ∧
             ((Eq (α := List Value) (bCells o) ([] ++ List.take ((Int.toNat (IntKind.wrap IntKind.i64 (Int.ofNat (Int.toNat (↑(List.length l) : Int) - (5 : Nat)) - (0 : Int))) - (0 : Nat)) * (1 : Nat)) (List.drop (5 : Nat) (bCells l)))) ∧
             ((Plain (bCells o)) ∧
             True))))))))))))))))))
             False)
            False)
           False)
          False)
         False))))))
      (br (decide ((0 : Int) ≤ (↑(0 : Nat) : Int) ∧ (0 : Int) ≤ IntKind.wrap IntKind.i64 (Int.ofNat (List.length l) - (0 : Int)) ∧ IntKind.wrap IntKind.i64 (Int.ofNat (List.length l) - (0 : Int)) ≤ (↑(List.length l) : Int)))
       (br (decide ((0 : Nat) + (Int.toNat (IntKind.wrap IntKind.i64 (Int.ofNat (List.length l) - (0 : Int))) - (0 : Nat)) * (1 : Nat) ≤ List.length (bCells l)))
        (br (allOne (List.take ((Int.toNat (IntKind.wrap IntKind.i64 (Int.ofNat (List.length l) - (0 : Int))) - (0 : Nat)) * (1 : Nat)) (List.drop (0 : Nat) (bCells l))))
         (br (decide ((0 : Nat) + (Int.toNat (IntKind.wrap IntKind.i64 (Int.ofNat (List.length l) - (0 : Int))) - (0 : Nat)) ≤ (16777216 : Nat)))
          ((z.1 = y.1) ∧
          ((z.2 = y.2) ∧
          ((z.3 = (iand IntKind.i64 fl (1 : Int) != (0 : Int))) ∧
          ((z.4 = y.4) ∧
          ((z.5 = y.5) ∧
          (((0 : Nat) = (0 : Nat)) ∧
          ((List.length o = (0 : Nat) + (Int.toNat (IntKind.wrap IntKind.i64 (Int.ofNat (List.length l) - (0 : Int))) - (0 : Nat))) ∧
          ((z.6 = y.6) ∧
          ((z.7 = y.7) ∧
          ((z.8 = y.8) ∧
          ((z.9 = Int.ofNat (List.length l)) ∧
          ((sc = (0 : Int)) ∧
          ((cd = (0 : Int)) ∧
          ((sn = (0 : Int)) ∧
          ((Eq (α := List Value) (bCells l) (bCells l)) ∧
          ((Plain (bCells l)) ∧
          ((Eq (α := List Value) (bCells o) ([] ++ List.take ((Int.toNat (IntKind.wrap IntKind.i64 (Int.ofNat (List.length l) - (0 : Int))) - (0 : Nat)) * (1 : Nat)) (List.drop (0 : Nat) (bCells l)))) ∧
          ((Plain (bCells o)) ∧
          True))))))))))))))))))
          False)
         False)
        False)
       False))
     (br (decide ((0 : Int) ≤ (↑(0 : Nat) : Int) ∧ (0 : Int) ≤ IntKind.wrap IntKind.i64 (Int.ofNat (List.length l) - (0 : Int)) ∧ IntKind.wrap IntKind.i64 (Int.ofNat (List.length l) - (0 : Int)) ≤ (↑(List.length l) : Int)))
      (br (decide ((0 : Nat) + (Int.toNat (IntKind.wrap IntKind.i64 (Int.ofNat (List.length l) - (0 : Int))) - (0 : Nat)) * (1 : Nat) ≤ List.length (bCells l)))
       (br (allOne (List.take ((Int.toNat (IntKind.wrap IntKind.i64 (Int.ofNat (List.length l) - (0 : Int))) - (0 : Nat)) * (1 : Nat)) (List.drop (0 : Nat) (bCells l))))
        (br (decide ((0 : Nat) + (Int.toNat (IntKind.wrap IntKind.i64 (Int.ofNat (List.length l) - (0 : Int))) - (0 : Nat)) ≤ (16777216 : Nat)))
         ((z.1 = y.1) ∧
         ((z.2 = y.2) ∧
         ((z.3 = (iand IntKind.i64 fl (1 : Int) != (0 : Int))) ∧
         ((z.4 = y.4) ∧
         ((z.5 = y.5) ∧
         (((0 : Nat) = (0 : Nat)) ∧
         ((List.length o = (0 : Nat) + (Int.toNat (IntKind.wrap IntKind.i64 (Int.ofNat (List.length l) - (0 : Int))) - (0 : Nat))) ∧
         ((z.6 = y.6) ∧
         ((z.7 = y.7) ∧
         ((z.8 = y.8) ∧
         ((z.9 = Int.ofNat (List.length l)) ∧
         ((sc = (0 : Int)) ∧
         ((cd = (0 : Int)) ∧
         ((sn = (0 : Int)) ∧
         ((Eq (α := List Value) (bCells l) (bCells l)) ∧
         ((Plain (bCells l)) ∧
         ((Eq (α := List Value) (bCells o) ([] ++ List.take ((Int.toNat (IntKind.wrap IntKind.i64 (Int.ofNat (List.length l) - (0 : Int))) - (0 : Nat)) * (1 : Nat)) (List.drop (0 : Nat) (bCells l)))) ∧
         ((Plain (bCells o)) ∧
         True))))))))))))))))))
         False)
        False)
       False)
      False)))
   (br (iand IntKind.i64 fl (8 : Int) != (0 : Int))
    (br (Int.ofNat (List.length l) == (0 : Int))
     ((z.1 = (0 : Int)) ∧
     ((z.2 = (0 : Int)) ∧
     ((z.3 = false) ∧
     ((z.4 = false) ∧
     ((z.5 = false) ∧
     ((List.length o = (0 : Nat)) ∧
     ((z.6 = (0 : Int)) ∧
     ((z.7 = (0 : Int)) ∧
     ((z.8 = (0 : Int)) ∧
     ((z.9 = (0 : Int)) ∧
     ((sc = (2 : Int)) ∧
     ((cd = (6 : Int)) ∧
     ((sn = (0 : Int)) ∧
     ((Eq (α := List Value) (bCells l) (bCells l)) ∧
     ((Plain (bCells l)) ∧
     ((Eq (α := List Value) (bCells o) ([])) ∧
     True))))))))))))))))
     (br (decide ((0 : Int) ≤ (0 : Int) ∧ (0 : Int) < (↑(List.length l) : Int)))
      ((Eq (α := Option Value) ((bCells l)[(0 : Nat)]?) (some (Value.int IntKind.u8 (cellI (bCells l) (0 : Nat))))) ∧
      (br (decide ((0 : Int) ≤ (1 : Int) ∧ (1 : Int) ≤ (↑(List.length l) : Int) ∧ (↑(List.length l) : Int) ≤ (↑(List.length l) : Int)))
       (br (ty == (1 : Int))
        (br (iand IntKind.i64 fl (32 : Int) != (0 : Int))
         (br (decide (Int.ofNat (Int.toNat (↑(List.length l) : Int) - (1 : Nat)) < (5 : Int)))
          ((z.1 = (0 : Int)) ∧
          ((z.2 = (0 : Int)) ∧
          ((z.3 = false) ∧
          ((z.4 = false) ∧
          ((z.5 = false) ∧
          ((List.length o = (0 : Nat)) ∧
          ((z.6 = (0 : Int)) ∧
          ((z.7 = (0 : Int)) ∧
          ((z.8 = (0 : Int)) ∧
          ((z.9 = (0 : Int)) ∧
          ((sc = (2 : Int)) ∧
          ((cd = (6 : Int)) ∧
          ((sn = (0 : Int)) ∧
          ((Eq (α := List Value) (bCells l) (bCells l)) ∧
          ((Plain (bCells l)) ∧
          ((Eq (α := List Value) (bCells o) ([])) ∧
          True))))))))))))))))
          ((((((1 : Nat) + (Int.toNat (↑(List.length l) : Int) - (1 : Nat)) * (1 : Nat) ≤ List.length (bCells l) ∧ Plain (List.take ((Int.toNat (↑(List.length l) : Int) - (1 : Nat)) * (1 : Nat)) (List.drop (1 : Nat) (bCells l)))) ∧ True) ∧ ((True ∧ True) ∧ (True ∧ (IsB (Row.mk (List.take ((Int.toNat (↑(List.length l) : Int) - (1 : Nat)) * (1 : Nat)) (List.drop (1 : Nat) (bCells l))) true (Ob.cells true)) (Int.toNat (↑(List.length l) : Int) - (1 : Nat)) ∧ ((4 : Nat) ≤ Int.toNat (↑(List.length l) : Int) - (1 : Nat) ∧ Int.toNat (↑(List.length l) : Int) - (1 : Nat) ≤ (9223372036854775807 : Nat))))))) ∧
          ((Value.int IntKind.i64 st = Value.int IntKind.i64 st) ∧
          ((Value.int IntKind.i64 st = Value.int IntKind.i64 st) ∧
          (br (low4R (Row.mk (List.take ((Int.toNat (↑(List.length l) : Int) - (1 : Nat)) * (1 : Nat)) (List.drop (1 : Nat) (bCells l))) true (Ob.cells true)) == st)
           ((z.1 = (0 : Int)) ∧
           ((z.2 = (0 : Int)) ∧
           ((z.3 = false) ∧
           ((z.4 = false) ∧
           ((z.5 = false) ∧
           ((List.length o = (0 : Nat)) ∧
           ((z.6 = (0 : Int)) ∧
           ((z.7 = (0 : Int)) ∧
           ((z.8 = (0 : Int)) ∧
           ((z.9 = (0 : Int)) ∧
           ((sc = (1 : Int)) ∧
           ((cd = (1 : Int)) ∧
           ((sn = st) ∧
           ((Eq (α := List Value) (bCells l) (bCells l)) ∧
           ((Plain (bCells l)) ∧
           ((Eq (α := List Value) (bCells o) ([])) ∧
           True))))))))))))))))
           (br (decide ((0 : Int) ≤ (5 : Int) ∧ (5 : Int) ≤ (↑(Int.toNat (↑(List.length l) : Int) - (1 : Nat)) : Int) ∧ (↑(Int.toNat (↑(List.length l) : Int) - (1 : Nat)) : Int) ≤ (↑(Int.toNat (↑(List.length l) : Int) - (1 : Nat)) : Int)))
            (br (decide (IntKind.wrap IntKind.i64 (cellI (bCells l) (0 : Nat)) > Int.ofNat (Int.toNat (↑(Int.toNat (↑(List.length l) : Int) - (1 : Nat)) : Int) - (5 : Nat))))
             ((z.1 = (0 : Int)) ∧
             ((z.2 = (0 : Int)) ∧
             ((z.3 = false) ∧
             ((z.4 = false) ∧
             ((z.5 = false) ∧
             ((List.length o = (0 : Nat)) ∧
             ((z.6 = (0 : Int)) ∧
             ((z.7 = (0 : Int)) ∧
             ((z.8 = (0 : Int)) ∧
             ((z.9 = (0 : Int)) ∧
             ((sc = (2 : Int)) ∧
             ((cd = (1 : Int)) ∧
             ((sn = (0 : Int)) ∧
             ((Eq (α := List Value) (bCells l) (bCells l)) ∧
             ((Plain (bCells l)) ∧
             ((Eq (α := List Value) (bCells o) ([])) ∧
             True))))))))))))))))
             (br (decide ((0 : Int) ≤ (↑(0 : Nat) : Int) ∧ (0 : Int) ≤ IntKind.wrap IntKind.i64 (Int.ofNat (Int.toNat (↑(Int.toNat (↑(List.length l) : Int) - (1 : Nat)) : Int) - (5 : Nat)) - IntKind.wrap IntKind.i64 (cellI (bCells l) (0 : Nat))) ∧ IntKind.wrap IntKind.i64 (Int.ofNat (Int.toNat (↑(Int.toNat (↑(List.length l) : Int) - (1 : Nat)) : Int) - (5 : Nat)) - IntKind.wrap IntKind.i64 (cellI (bCells l) (0 : Nat))) ≤ (↑(Int.toNat (↑(Int.toNat (↑(List.length l) : Int) - (1 : Nat)) : Int) - (5 : Nat)) : Int)))
              (br (decide ((6 : Nat) + (Int.toNat (IntKind.wrap IntKind.i64 (Int.ofNat (Int.toNat (↑(Int.toNat (↑(List.length l) : Int) - (1 : Nat)) : Int) - (5 : Nat)) - IntKind.wrap IntKind.i64 (cellI (bCells l) (0 : Nat)))) - (0 : Nat)) * (1 : Nat) ≤ List.length (bCells l)))
               (br (allOne (List.take ((Int.toNat (IntKind.wrap IntKind.i64 (Int.ofNat (Int.toNat (↑(Int.toNat (↑(List.length l) : Int) - (1 : Nat)) : Int) - (5 : Nat)) - IntKind.wrap IntKind.i64 (cellI (bCells l) (0 : Nat)))) - (0 : Nat)) * (1 : Nat)) (List.drop (6 : Nat) (bCells l))))
                (br (decide ((0 : Nat) + (Int.toNat (IntKind.wrap IntKind.i64 (Int.ofNat (Int.toNat (↑(Int.toNat (↑(List.length l) : Int) - (1 : Nat)) : Int) - (5 : Nat)) - IntKind.wrap IntKind.i64 (cellI (bCells l) (0 : Nat)))) - (0 : Nat)) ≤ (16777216 : Nat)))
                 ((z.1 = y.1) ∧
                 ((z.2 = y.2) ∧
                 ((z.3 = (iand IntKind.i64 fl (1 : Int) != (0 : Int))) ∧
                 ((z.4 = (iand IntKind.i64 fl (4 : Int) != (0 : Int))) ∧
                 ((z.5 = y.5) ∧
                 (((0 : Nat) = (0 : Nat)) ∧
                 ((List.length o = (0 : Nat) + (Int.toNat (IntKind.wrap IntKind.i64 (Int.ofNat (Int.toNat (↑(Int.toNat (↑(List.length l) : Int) - (1 : Nat)) : Int) - (5 : Nat)) - IntKind.wrap IntKind.i64 (cellI (bCells l) (0 : Nat)))) - (0 : Nat))) ∧
                 ((z.6 = y.6) ∧
                 ((z.7 = y.7) ∧
                 ((z.8 = y.8) ∧
                 ((z.9 = y.9) ∧
                 ((sc = (0 : Int)) ∧
                 ((cd = (0 : Int)) ∧
                 ((sn = (0 : Int)) ∧
                 ((Eq (α := List Value) (bCells l) (bCells l)) ∧
                 ((Plain (bCells l)) ∧
                 ((Eq (α := List Value) (bCells o) ([] ++ List.take ((Int.toNat (IntKind.wrap IntKind.i64 (Int.ofNat (Int.toNat (↑(Int.toNat (↑(List.length l) : Int) - (1 : Nat)) : Int) - (5 : Nat)) - IntKind.wrap IntKind.i64 (cellI (bCells l) (0 : Nat)))) - (0 : Nat)) * (1 : Nat)) (List.drop (6 : Nat) (bCells l)))) ∧
                 ((Plain (bCells o)) ∧
                 True))))))))))))))))))
                 False)
                False)
               False)
              False))
            False))))))
         (br (decide (IntKind.wrap IntKind.i64 (cellI (bCells l) (0 : Nat)) > Int.ofNat (Int.toNat (↑(List.length l) : Int) - (1 : Nat))))
          ((z.1 = (0 : Int)) ∧
          ((z.2 = (0 : Int)) ∧
          ((z.3 = false) ∧
          ((z.4 = false) ∧
          ((z.5 = false) ∧
          ((List.length o = (0 : Nat)) ∧
          ((z.6 = (0 : Int)) ∧
          ((z.7 = (0 : Int)) ∧
          ((z.8 = (0 : Int)) ∧
          ((z.9 = (0 : Int)) ∧
          ((sc = (2 : Int)) ∧
          ((cd = (1 : Int)) ∧
          ((sn = (0 : Int)) ∧
          ((Eq (α := List Value) (bCells l) (bCells l)) ∧
          ((Plain (bCells l)) ∧
          ((Eq (α := List Value) (bCells o) ([])) ∧
          True))))))))))))))))
          (br (decide ((0 : Int) ≤ (↑(0 : Nat) : Int) ∧ (0 : Int) ≤ IntKind.wrap IntKind.i64 (Int.ofNat (Int.toNat (↑(List.length l) : Int) - (1 : Nat)) - IntKind.wrap IntKind.i64 (cellI (bCells l) (0 : Nat))) ∧ IntKind.wrap IntKind.i64 (Int.ofNat (Int.toNat (↑(List.length l) : Int) - (1 : Nat)) - IntKind.wrap IntKind.i64 (cellI (bCells l) (0 : Nat))) ≤ (↑(Int.toNat (↑(List.length l) : Int) - (1 : Nat)) : Int)))
           (br (decide ((1 : Nat) + (Int.toNat (IntKind.wrap IntKind.i64 (Int.ofNat (Int.toNat (↑(List.length l) : Int) - (1 : Nat)) - IntKind.wrap IntKind.i64 (cellI (bCells l) (0 : Nat)))) - (0 : Nat)) * (1 : Nat) ≤ List.length (bCells l)))
            (br (allOne (List.take ((Int.toNat (IntKind.wrap IntKind.i64 (Int.ofNat (Int.toNat (↑(List.length l) : Int) - (1 : Nat)) - IntKind.wrap IntKind.i64 (cellI (bCells l) (0 : Nat)))) - (0 : Nat)) * (1 : Nat)) (List.drop (1 : Nat) (bCells l))))
             (br (decide ((0 : Nat) + (Int.toNat (IntKind.wrap IntKind.i64 (Int.ofNat (Int.toNat (↑(List.length l) : Int) - (1 : Nat)) - IntKind.wrap IntKind.i64 (cellI (bCells l) (0 : Nat)))) - (0 : Nat)) ≤ (16777216 : Nat)))
              ((z.1 = y.1) ∧
              ((z.2 = y.2) ∧
              ((z.3 = (iand IntKind.i64 fl (1 : Int) != (0 : Int))) ∧
              ((z.4 = (iand IntKind.i64 fl (4 : Int) != (0 : Int))) ∧
              ((z.5 = y.5) ∧
              (((0 : Nat) = (0 : Nat)) ∧
              ((List.length o = (0 : Nat) + (Int.toNat (IntKind.wrap IntKind.i64 (Int.ofNat (Int.toNat (↑(List.length l) : Int) - (1 : Nat)) - IntKind.wrap IntKind.i64 (cellI (bCells l) (0 : Nat)))) - (0 : Nat))) ∧
              ((z.6 = y.6) ∧
              ((z.7 = y.7) ∧
              ((z.8 = y.8) ∧
              ((z.9 = y.9) ∧
              ((sc = (0 : Int)) ∧
              ((cd = (0 : Int)) ∧
              ((sn = (0 : Int)) ∧
              ((Eq (α := List Value) (bCells l) (bCells l)) ∧
              ((Plain (bCells l)) ∧
              ((Eq (α := List Value) (bCells o) ([] ++ List.take ((Int.toNat (IntKind.wrap IntKind.i64 (Int.ofNat (Int.toNat (↑(List.length l) : Int) - (1 : Nat)) - IntKind.wrap IntKind.i64 (cellI (bCells l) (0 : Nat)))) - (0 : Nat)) * (1 : Nat)) (List.drop (1 : Nat) (bCells l)))) ∧
              ((Plain (bCells o)) ∧
              True))))))))))))))))))
              False)
             False)
            False)
           False)))
        (br (decide (IntKind.wrap IntKind.i64 (cellI (bCells l) (0 : Nat)) > Int.ofNat (Int.toNat (↑(List.length l) : Int) - (1 : Nat))))
         ((z.1 = (0 : Int)) ∧
         ((z.2 = (0 : Int)) ∧
         ((z.3 = false) ∧
         ((z.4 = false) ∧
         ((z.5 = false) ∧
         ((List.length o = (0 : Nat)) ∧
         ((z.6 = (0 : Int)) ∧
         ((z.7 = (0 : Int)) ∧
         ((z.8 = (0 : Int)) ∧
         ((z.9 = (0 : Int)) ∧
         ((sc = (2 : Int)) ∧
         ((cd = (1 : Int)) ∧
         ((sn = (0 : Int)) ∧
         ((Eq (α := List Value) (bCells l) (bCells l)) ∧
         ((Plain (bCells l)) ∧
         ((Eq (α := List Value) (bCells o) ([])) ∧
         True))))))))))))))))
         (br (decide ((0 : Int) ≤ (↑(0 : Nat) : Int) ∧ (0 : Int) ≤ IntKind.wrap IntKind.i64 (Int.ofNat (Int.toNat (↑(List.length l) : Int) - (1 : Nat)) - IntKind.wrap IntKind.i64 (cellI (bCells l) (0 : Nat))) ∧ IntKind.wrap IntKind.i64 (Int.ofNat (Int.toNat (↑(List.length l) : Int) - (1 : Nat)) - IntKind.wrap IntKind.i64 (cellI (bCells l) (0 : Nat))) ≤ (↑(Int.toNat (↑(List.length l) : Int) - (1 : Nat)) : Int)))
          (br (decide ((1 : Nat) + (Int.toNat (IntKind.wrap IntKind.i64 (Int.ofNat (Int.toNat (↑(List.length l) : Int) - (1 : Nat)) - IntKind.wrap IntKind.i64 (cellI (bCells l) (0 : Nat)))) - (0 : Nat)) * (1 : Nat) ≤ List.length (bCells l)))
           (br (allOne (List.take ((Int.toNat (IntKind.wrap IntKind.i64 (Int.ofNat (Int.toNat (↑(List.length l) : Int) - (1 : Nat)) - IntKind.wrap IntKind.i64 (cellI (bCells l) (0 : Nat)))) - (0 : Nat)) * (1 : Nat)) (List.drop (1 : Nat) (bCells l))))
            (br (decide ((0 : Nat) + (Int.toNat (IntKind.wrap IntKind.i64 (Int.ofNat (Int.toNat (↑(List.length l) : Int) - (1 : Nat)) - IntKind.wrap IntKind.i64 (cellI (bCells l) (0 : Nat)))) - (0 : Nat)) ≤ (16777216 : Nat)))
             ((z.1 = y.1) ∧
             ((z.2 = y.2) ∧
             ((z.3 = (iand IntKind.i64 fl (1 : Int) != (0 : Int))) ∧
             ((z.4 = (iand IntKind.i64 fl (4 : Int) != (0 : Int))) ∧
             ((z.5 = y.5) ∧
             (((0 : Nat) = (0 : Nat)) ∧
             ((List.length o = (0 : Nat) + (Int.toNat (IntKind.wrap IntKind.i64 (Int.ofNat (Int.toNat (↑(List.length l) : Int) - (1 : Nat)) - IntKind.wrap IntKind.i64 (cellI (bCells l) (0 : Nat)))) - (0 : Nat))) ∧
             ((z.6 = y.6) ∧
             ((z.7 = y.7) ∧
             ((z.8 = y.8) ∧
             ((z.9 = y.9) ∧
             ((sc = (0 : Int)) ∧
             ((cd = (0 : Int)) ∧
             ((sn = (0 : Int)) ∧
             ((Eq (α := List Value) (bCells l) (bCells l)) ∧
             ((Plain (bCells l)) ∧
             ((Eq (α := List Value) (bCells o) ([] ++ List.take ((Int.toNat (IntKind.wrap IntKind.i64 (Int.ofNat (Int.toNat (↑(List.length l) : Int) - (1 : Nat)) - IntKind.wrap IntKind.i64 (cellI (bCells l) (0 : Nat)))) - (0 : Nat)) * (1 : Nat)) (List.drop (1 : Nat) (bCells l)))) ∧
             ((Plain (bCells o)) ∧
             True))))))))))))))))))
             False)
            False)
           False)
          False)))
       False))
      False))
    (br (ty == (1 : Int))
     (br (iand IntKind.i64 fl (32 : Int) != (0 : Int))
      (br (decide (Int.ofNat (List.length l) < (5 : Int)))
       ((z.1 = (0 : Int)) ∧
       ((z.2 = (0 : Int)) ∧
       ((z.3 = false) ∧
       ((z.4 = false) ∧
       ((z.5 = false) ∧
       ((List.length o = (0 : Nat)) ∧
       ((z.6 = (0 : Int)) ∧
       ((z.7 = (0 : Int)) ∧
       ((z.8 = (0 : Int)) ∧
       ((z.9 = (0 : Int)) ∧
       ((sc = (2 : Int)) ∧
       ((cd = (6 : Int)) ∧
       ((sn = (0 : Int)) ∧
       ((Eq (α := List Value) (bCells l) (bCells l)) ∧
       ((Plain (bCells l)) ∧
       ((Eq (α := List Value) (bCells o) ([])) ∧
       True))))))))))))))))
       ((((((0 : Nat) + List.length l * (1 : Nat) ≤ List.length (bCells l) ∧ Plain (List.take (List.length l * (1 : Nat)) (List.drop (0 : Nat) (bCells l)))) ∧ True) ∧ ((True ∧ True) ∧ (True ∧ (IsB (Row.mk (List.take (List.length l * (1 : Nat)) (List.drop (0 : Nat) (bCells l))) true (Ob.cells true)) (List.length l) ∧ ((4 : Nat) ≤ List.length l ∧ List.length l ≤ (9223372036854775807 : Nat))))))) ∧
       ((Value.int IntKind.i64 st = Value.int IntKind.i64 st) ∧
       ((Value.int IntKind.i64 st = Value.int IntKind.i64 st) ∧
       (br (low4R (Row.mk (List.take (List.length l * (1 : Nat)) (List.drop (0 : Nat) (bCells l))) true (Ob.cells true)) == st)
        ((z.1 = (0 : Int)) ∧
        ((z.2 = (0 : Int)) ∧
        ((z.3 = false) ∧
        ((z.4 = false) ∧
        ((z.5 = false) ∧
        ((List.length o = (0 : Nat)) ∧
        ((z.6 = (0 : Int)) ∧
        ((z.7 = (0 : Int)) ∧
        ((z.8 = (0 : Int)) ∧
        ((z.9 = (0 : Int)) ∧
        ((sc = (1 : Int)) ∧
        ((cd = (1 : Int)) ∧
        ((sn = st) ∧
        ((Eq (α := List Value) (bCells l) (bCells l)) ∧
        ((Plain (bCells l)) ∧
        ((Eq (α := List Value) (bCells o) ([])) ∧
        True))))))))))))))))
        (br (decide ((0 : Int) ≤ (5 : Int) ∧ (5 : Int) ≤ (↑(List.length l) : Int) ∧ (↑(List.length l) : Int) ≤ (↑(List.length l) : Int)))
         (br (decide ((0 : Int) ≤ (↑(0 : Nat) : Int) ∧ (0 : Int) ≤ IntKind.wrap IntKind.i64 (Int.ofNat (Int.toNat (↑(List.length l) : Int) - (5 : Nat)) - (0 : Int)) ∧ IntKind.wrap IntKind.i64 (Int.ofNat (Int.toNat (↑(List.length l) : Int) - (5 : Nat)) - (0 : Int)) ≤ (↑(Int.toNat (↑(List.length l) : Int) - (5 : Nat)) : Int)))
          (br (decide ((5 : Nat) + (Int.toNat (IntKind.wrap IntKind.i64 (Int.ofNat (Int.toNat (↑(List.length l) : Int) - (5 : Nat)) - (0 : Int))) - (0 : Nat)) * (1 : Nat) ≤ List.length (bCells l)))
           (br (allOne (List.take ((Int.toNat (IntKind.wrap IntKind.i64 (Int.ofNat (Int.toNat (↑(List.length l) : Int) - (5 : Nat)) - (0 : Int))) - (0 : Nat)) * (1 : Nat)) (List.drop (5 : Nat) (bCells l))))
            (br (decide ((0 : Nat) + (Int.toNat (IntKind.wrap IntKind.i64 (Int.ofNat (Int.toNat (↑(List.length l) : Int) - (5 : Nat)) - (0 : Int))) - (0 : Nat)) ≤ (16777216 : Nat)))
             ((z.1 = y.1) ∧
             ((z.2 = y.2) ∧
             ((z.3 = (iand IntKind.i64 fl (1 : Int) != (0 : Int))) ∧
             ((z.4 = (iand IntKind.i64 fl (4 : Int) != (0 : Int))) ∧
             ((z.5 = y.5) ∧
             (((0 : Nat) = (0 : Nat)) ∧
             ((List.length o = (0 : Nat) + (Int.toNat (IntKind.wrap IntKind.i64 (Int.ofNat (Int.toNat (↑(List.length l) : Int) - (5 : Nat)) - (0 : Int))) - (0 : Nat))) ∧
             ((z.6 = y.6) ∧
             ((z.7 = y.7) ∧
             ((z.8 = y.8) ∧
             ((z.9 = y.9) ∧
             ((sc = (0 : Int)) ∧
             ((cd = (0 : Int)) ∧
             ((sn = (0 : Int)) ∧
             ((Eq (α := List Value) (bCells l) (bCells l)) ∧
             ((Plain (bCells l)) ∧
             ((Eq (α := List Value) (bCells o) ([] ++ List.take ((Int.toNat (IntKind.wrap IntKind.i64 (Int.ofNat (Int.toNat (↑(List.length l) : Int) - (5 : Nat)) - (0 : Int))) - (0 : Nat)) * (1 : Nat)) (List.drop (5 : Nat) (bCells l)))) ∧
             ((Plain (bCells o)) ∧
             True))))))))))))))))))
             False)
            False)
           False)
          False)
         False))))))
      (br (decide ((0 : Int) ≤ (↑(0 : Nat) : Int) ∧ (0 : Int) ≤ IntKind.wrap IntKind.i64 (Int.ofNat (List.length l) - (0 : Int)) ∧ IntKind.wrap IntKind.i64 (Int.ofNat (List.length l) - (0 : Int)) ≤ (↑(List.length l) : Int)))
       (br (decide ((0 : Nat) + (Int.toNat (IntKind.wrap IntKind.i64 (Int.ofNat (List.length l) - (0 : Int))) - (0 : Nat)) * (1 : Nat) ≤ List.length (bCells l)))
        (br (allOne (List.take ((Int.toNat (IntKind.wrap IntKind.i64 (Int.ofNat (List.length l) - (0 : Int))) - (0 : Nat)) * (1 : Nat)) (List.drop (0 : Nat) (bCells l))))
         (br (decide ((0 : Nat) + (Int.toNat (IntKind.wrap IntKind.i64 (Int.ofNat (List.length l) - (0 : Int))) - (0 : Nat)) ≤ (16777216 : Nat)))
          ((z.1 = y.1) ∧
          ((z.2 = y.2) ∧
          ((z.3 = (iand IntKind.i64 fl (1 : Int) != (0 : Int))) ∧
          ((z.4 = (iand IntKind.i64 fl (4 : Int) != (0 : Int))) ∧
          ((z.5 = y.5) ∧
          (((0 : Nat) = (0 : Nat)) ∧
          ((List.length o = (0 : Nat) + (Int.toNat (IntKind.wrap IntKind.i64 (Int.ofNat (List.length l) - (0 : Int))) - (0 : Nat))) ∧
          ((z.6 = y.6) ∧
          ((z.7 = y.7) ∧
          ((z.8 = y.8) ∧
          ((z.9 = y.9) ∧
          ((sc = (0 : Int)) ∧
          ((cd = (0 : Int)) ∧
          ((sn = (0 : Int)) ∧
          ((Eq (α := List Value) (bCells l) (bCells l)) ∧
          ((Plain (bCells l)) ∧
          ((Eq (α := List Value) (bCells o) ([] ++ List.take ((Int.toNat (IntKind.wrap IntKind.i64 (Int.ofNat (List.length l) - (0 : Int))) - (0 : Nat)) * (1 : Nat)) (List.drop (0 : Nat) (bCells l)))) ∧
          ((Plain (bCells o)) ∧
          True))))))))))))))))))
          False)
         False)
        False)
       False))
     (br (decide ((0 : Int) ≤ (↑(0 : Nat) : Int) ∧ (0 : Int) ≤ IntKind.wrap IntKind.i64 (Int.ofNat (List.length l) - (0 : Int)) ∧ IntKind.wrap IntKind.i64 (Int.ofNat (List.length l) - (0 : Int)) ≤ (↑(List.length l) : Int)))
      (br (decide ((0 : Nat) + (Int.toNat (IntKind.wrap IntKind.i64 (Int.ofNat (List.length l) - (0 : Int))) - (0 : Nat)) * (1 : Nat) ≤ List.length (bCells l)))
       (br (allOne (List.take ((Int.toNat (IntKind.wrap IntKind.i64 (Int.ofNat (List.length l) - (0 : Int))) - (0 : Nat)) * (1 : Nat)) (List.drop (0 : Nat) (bCells l))))
        (br (decide ((0 : Nat) + (Int.toNat (IntKind.wrap IntKind.i64 (Int.ofNat (List.length l) - (0 : Int))) - (0 : Nat)) ≤ (16777216 : Nat)))
         ((z.1 = y.1) ∧
         ((z.2 = y.2) ∧
         ((z.3 = (iand IntKind.i64 fl (1 : Int) != (0 : Int))) ∧
         ((z.4 = (iand IntKind.i64 fl (4 : Int) != (0 : Int))) ∧
         ((z.5 = y.5) ∧
         (((0 : Nat) = (0 : Nat)) ∧
         ((List.length o = (0 : Nat) + (Int.toNat (IntKind.wrap IntKind.i64 (Int.ofNat (List.length l) - (0 : Int))) - (0 : Nat))) ∧
         ((z.6 = y.6) ∧
         ((z.7 = y.7) ∧
         ((z.8 = y.8) ∧
         ((z.9 = y.9) ∧
         ((sc = (0 : Int)) ∧
         ((cd = (0 : Int)) ∧
         ((sn = (0 : Int)) ∧
         ((Eq (α := List Value) (bCells l) (bCells l)) ∧
         ((Plain (bCells l)) ∧
         ((Eq (α := List Value) (bCells o) ([] ++ List.take ((Int.toNat (IntKind.wrap IntKind.i64 (Int.ofNat (List.length l) - (0 : Int))) - (0 : Nat)) * (1 : Nat)) (List.drop (0 : Nat) (bCells l)))) ∧
         ((Plain (bCells o)) ∧
         True))))))))))))))))))
         False)
        False)
       False)
      False)))) := by kernel_rfl
theorem Rt_piece : PieceOk EtRset 1 (30, pRt, specRt) := by
  refine piece_loop mixed (calls_envT tRset_ok) (lok_envT _ _) lm_none (n := 60) (by kernel_rfl) (fun _ : GSet => (⟨0, []⟩ : StSet)) (fun g s => 6 * s.i ≤ g.l.length ∧ s.acc.length = s.i ∧ seErr (sets g.l) = seErr (sets (g.l.drop (6 * s.i))) ∧ seGood (sets g.l) = s.acc ++ seGood (sets (g.l.drop (6 * s.i)))) (fun g s => g.l.length - s.i) (sl := slRt) (rl := rlRt) (fun g hg => ⟨Nat.zero_le _, rfl, rfl, rfl⟩) (fun g s hg hi => ?_)
  refine (Rt_round g s _ _).mpr ?_
  obtain ⟨i, acc⟩ := s
  obtain ⟨h1, h2, h3, h4⟩ := hi
  obtain ⟨g1, g2⟩ := hg
  simp only at h1 h2 h3 h4
  simp only [ofNat_eq, toNat_cast, Nat.zero_add, Nat.add_zero, Nat.mul_one, List.drop_zero, bCells_len, bCells_drop, bCells_take, bCells_app, bCells_one, bCells_plain, List.length_replicate, List.length_append, List.length_take, List.length_drop, List.take_length, and_true, true_and, and_self, decide_true, List.length_nil, List.length_cons, Nat.sub_zero, dB_mk, dB_ro, List.take_zero]
  refine br_if (fun h => ?_) (fun h => ⟨(), ?_⟩)
  rotate_left
  · have e0 : g.l.drop (6 * i) = [] := List.drop_eq_nil_of_le (by omega)
    rw [e0] at h3 h4
    have h4 : seGood (sets g.l) = acc := by rw [h4]; simp [sets, seGood]
    exact ⟨by rw [h3]; rfl, by rw [h4], by rw [h4], sePl _⟩
  have hlen : (g.l.drop (6 * i)).length = g.l.length - 6 * i := List.length_drop
  obtain ⟨a, b, c, d, e, f, r, hd⟩ := six (g.l.drop (6 * i)) (by omega)
  have hr : r.length + 6 = g.l.length - 6 * i := by rw [← hlen, hd]; simp
  obtain ⟨x1, x2⟩ := bGet g.l (6 * i) (by omega)
  obtain ⟨y1, y2⟩ := bGet g.l (6 * i + 1) (by omega)
  have ga : g.l.getD (6 * i) 0 = a := by have := getD_drop g.l (6 * i) 0; rw [Nat.add_zero] at this; rw [this, hd]; rfl
  have gb : g.l.getD (6 * i + 1) 0 = b := by rw [getD_drop g.l (6 * i) 1, hd]; rfl
  have d2 : g.l.drop (6 * i + 2) = c :: d :: e :: f :: r := by rw [← List.drop_drop, hd]; rfl
  have d6 : g.l.drop (6 * i + 6) = r := by rw [← List.drop_drop, hd]; rfl
  have tk : List.take (g.l.length - (6 * i + 2)) (g.l.drop (6 * i + 2)) = c :: d :: e :: f :: r := by rw [d2]; exact List.take_of_length_le (by simp; omega)
  have nn : num4R ⟨bCells (c :: d :: e :: f :: r), true, .cells true⟩ = (num4 [c, d, e, f] : Nat) := by unfold num4R; rw [dB_mk]; rfl
  have hs : sets (g.l.drop (6 * i)) = ⟨(a.toNat * 256 + b.toNat : Nat), (num4 [c, d, e, f] : Nat)⟩ :: sets r := by rw [hd]; rfl
  have w1 : IntKind.i64.wrap (((6 * i : Nat) : Int) + 1) = ((6 * i + 1 : Nat) : Int) := by rw [wr64_id (by unfold I64; omega)]; omega
  have w2 : IntKind.i64.wrap (((6 * i : Nat) : Int) + 2) = ((6 * i + 2 : Nat) : Int) := by rw [wr64_id (by unfold I64; omega)]; omega
  have w6 : IntKind.i64.wrap (((6 * i : Nat) : Int) + 6) = ((6 * i + 6 : Nat) : Int) := by rw [wr64_id (by unfold I64; omega)]; omega
  rw [hs] at h3 h4
  simp only [w1, w2, w6, Int.toNat_natCast, x1, x2, y1, y2, ga, gb, tk, nn, true_and, cat2 (u8_lt a) (u8_lt b)]
  generalize hse : (⟨(a.toNat * 256 + b.toNat : Nat), (num4 [c, d, e, f] : Nat)⟩ : Se) = se at h3 h4
  have e1 : ((a.toNat * 256 + b.toNat : Nat) : Int) = se.i := by rw [← hse]
  have e2 : ((num4 [c, d, e, f] : Nat) : Int) = se.v := by rw [← hse]
  simp only [e1, e2]
  refine br_dec (by omega) (br_dec (by omega) (br_dec (by omega) ⟨⟨by omega, isB_mk _ _ (by simp; omega), by omega, by omega⟩, br_dec (by omega) (br_intro (fun k => ?_) (fun k => ?_))⟩))
  · have k : ¬ valI se.i se.v = 0 := by simpa using k
    simp only [seErr, if_neg k] at h3
    exact ⟨(), by rw [h3]; exact k, h3⟩
  · have k : valI se.i se.v = 0 := by simpa using k
    simp only [seErr, seGood, if_pos k] at h3 h4
    have e6 : 6 * (i + 1) = 6 * i + 6 := by omega
    have one : [Value.int .i64 se.i, Value.int .i64 se.v] = gC seC [se] := rfl
    have tke : List.take (acc.length * 2) (gC seC acc) = gC seC acc := List.take_of_length_le (by rw [seL]; omega)
    refine br_dec (by omega) (br_dec (by rw [seL]; omega) ⟨⟨i + 1, acc ++ [se]⟩, ⟨by simp only; omega, by simp; omega, by simp only; rw [e6, d6]; exact h3, by simp only; rw [e6, d6, h4]; simp⟩, by simp only; omega, by simp only; omega, by simp, ?_, sePl _⟩)
    simp only [one, tke, gC_app]
theorem Rt_con (y : PtY) (ty fl st : Int) (l : List UInt8) (hl : l.length ≤ 16777216) : Con Try.prog 30 [.agg ⟨frCy ty fl st 0 l.length⟩, .agg ⟨ptC0 y⟩] [bRo l] (.tuple #[.agg ⟨ptC1 (okY (stSc fl l) ⟨y.ty, y.st, y.e, y.f, bit fl 1, y.co, y.la, y.mo, y.cs⟩) 1 (okL (stSc fl l) (stSe fl l)).length⟩, .agg ⟨[.int .i64 (stSc fl l), .int .i64 (stCd fl l), .int .i64 0]⟩]) [bRo l, gOwn seC (okL (stSc fl l) (stSe fl l))] := by
  refine con_vc (E := EtRset) mixed (calls_envT tRset_ok) (lok_envT _ _) (M := mRt) (lm_one Rt_piece) (Rt_vc y _ ty fl st _ _ l _) ?_
  simp only [ofNat_eq, toNat_cast, Nat.zero_add, Nat.add_zero, Nat.mul_one, List.drop_zero, bCells_len, bCells_drop, bCells_take, bCells_app, bCells_one, bCells_plain, List.length_replicate, List.length_append, List.length_take, List.length_drop, List.take_length, and_true, true_and, and_self, decide_true, List.length_nil, List.length_cons, Nat.sub_zero, dB_mk, dB_ro, List.take_zero]
  have m6 : ((l.length : Int).tmod 6 != 0) = decide (l.length % 6 ≠ 0) := by
    have : (l.length : Int).tmod 6 = ((l.length % 6 : Nat) : Int) := rfl
    rw [this, Bool.eq_iff_iff]; simp; omega
  rw [m6]
  have hbad : stBad fl l = (decide (l.length % 6 ≠ 0) || ((iand .i64 fl 1 != 0) && decide (0 < l.length))) := rfl
  have hS : stBad fl l = true → stSc fl l = 2 ∧ stCd fl l = 6 := fun hb => ⟨by unfold stSc; rw [if_pos hb], by unfold stCd; rw [if_pos hb]⟩
  have hG : ∀ (_ : ¬ stBad fl l = true), stSe fl l = seGood (sets l) ∧ stCd fl l = seErr (sets l) ∧ stSc fl l = if seErr (sets l) = 0 then 0 else 2 := fun hb => ⟨by unfold stSe; rw [if_neg hb], by unfold stCd; rw [if_neg hb], by unfold stSc; rw [if_neg hb]⟩
  have b1 : (iand .i64 fl 1 != 0) = bit fl 1 := rfl
  refine br_intro (fun h2 => br_if (fun h3 => ?_) (fun h3 => br_if (fun h6 => ?_) (fun h6 => ?_))) (fun h2 => br_if (fun h6 => ?_) (fun h6 => ?_))
  · obtain ⟨s1, s2⟩ := hS (by rw [hbad, h2, decide_eq_true (show 0 < l.length by omega)]; simp)
    simp only [s1, s2]; simp [okY, okI, okZ, okL, gC]
  · obtain ⟨s1, s2⟩ := hS (by rw [hbad, decide_eq_true h6]; rfl)
    simp only [s1, s2]; simp [okY, okI, okZ, okL, gC]
  · obtain ⟨s0, s2, s1⟩ := hG (by rw [hbad, decide_eq_false (show ¬ 0 < l.length by omega)]; simp; omega)
    refine ⟨⟨l, ⟨y.ty, y.st, y.e, y.f, bit fl 1, y.co, y.la, y.mo, y.cs⟩⟩, ⟨show l.length % 6 = 0 by omega, hl⟩, rfl, rfl, rfl, rfl, rfl, rfl, rfl, rfl, rfl, rfl, rfl, br_side (fun _ k => ?_) (fun _ k => ?_)⟩
    · simp only at k; rw [if_pos k] at s1
      simp only [s0, s1, s2, k]; simp [okY, okI, okZ, okL, sePl]
    · simp only at k; rw [if_neg k] at s1
      simp only [s1, s2]; simp [okY, okI, okZ, okL, gC]
  · obtain ⟨s1, s2⟩ := hS (by rw [hbad, decide_eq_true h6]; rfl)
    simp only [s1, s2]; simp [okY, okI, okZ, okL, gC]
  · obtain ⟨s0, s2, s1⟩ := hG (by rw [hbad, h2]; simp; omega)
    refine ⟨⟨l, ⟨y.ty, y.st, y.e, y.f, bit fl 1, y.co, y.la, y.mo, y.cs⟩⟩, ⟨show l.length % 6 = 0 by omega, hl⟩, rfl, rfl, rfl, rfl, rfl, rfl, rfl, rfl, rfl, rfl, rfl, br_side (fun _ k => ?_) (fun _ k => ?_)⟩
    · simp only at k; rw [if_pos k] at s1
      simp only [s0, s1, s2, k]; simp [okY, okI, okZ, okL, sePl]
    · simp only at k; rw [if_neg k] at s1
      simp only [s1, s2]; simp [okY, okI, okZ, okL, gC]
theorem eRst_ok : EntOk Try.prog eRst := entC_ok (by
  intro a rows p v news h hp
  split at h <;> simp only [Option.some.injEq, Prod.mk.injEq, reduceCtorEq] at h
  obtain ⟨rfl, rfl, rfl⟩ := h
  obtain ⟨⟨l, rfl, rfl⟩, h1⟩ := hp
  simp only [rsI, rsB, rsN, rsC, stScR, stCdR, dB_ro, List.append_nil]
  exact Rt_con ⟨_, _, _, _, _, _, _, _, _⟩ _ _ _ l h1)
theorem tRlg_ok : ∀ x ∈ tRlg, EntOk Try.prog x := all_cons eFour_ok (all_nil)
theorem lg_out (y : PtY) (ty fl st : Int) (l : List UInt8) (sc cd sn : Int) (h0 : sc ≠ 0) (h1 : lSc ty fl st l = sc) (h2 : lCd ty fl st l = cd) (h3 : lSn ty fl st l = sn) (h4 : lBo ty fl st l = []) : (lY ty fl st l y).ty = 0 ∧ (lY ty fl st l y).st = 0 ∧ (lY ty fl st l y).e = false ∧ (lY ty fl st l y).f = false ∧ (lY ty fl st l y).a = false ∧ (lBo ty fl st l).length = 0 ∧ (lY ty fl st l y).co = 0 ∧ (lY ty fl st l y).la = 0 ∧ (lY ty fl st l y).mo = 0 ∧ (lY ty fl st l y).cs = 0 ∧ lSc ty fl st l = sc ∧ lCd ty fl st l = cd ∧ lSn ty fl st l = sn ∧ bCells (lBo ty fl st l) = [] := by
  unfold lY okY okI okZ
  rw [h1, h2, h3, h4]
  simp [h0, bCells]
theorem lg_good (y : PtY) (ty fl st : Int) (l m : List UInt8) (k : Nat) (f : Bool) (cs : Int) (hf : f = if ty = 0 then y.f else bit fl 4) (hc : cs = if ty = 0 then (l.length : Int) else y.cs) (h1 : lSc ty fl st l = 0) (h2 : lCd ty fl st l = 0) (h3 : lSn ty fl st l = 0) (h4 : lBo ty fl st l = m) (h5 : k = m.length) : (lY ty fl st l y).ty = y.ty ∧ (lY ty fl st l y).st = y.st ∧ (lY ty fl st l y).e = bit fl 1 ∧ (lY ty fl st l y).f = f ∧ (lY ty fl st l y).a = y.a ∧ (lBo ty fl st l).length = k ∧ (lY ty fl st l y).co = y.co ∧ (lY ty fl st l y).la = y.la ∧ (lY ty fl st l y).mo = y.mo ∧ (lY ty fl st l y).cs = cs ∧ lSc ty fl st l = 0 ∧ lCd ty fl st l = 0 ∧ lSn ty fl st l = 0 ∧ bCells (lBo ty fl st l) = bCells m := by
  unfold lY okY okI okZ
  rw [h1, h2, h3, h4, hf, hc, h5]
  simp
theorem Lg_con (y : PtY) (ty fl st : Int) (l : List UInt8) (hl : l.length ≤ 16777216) (ht : Ty01 ty) : Con Try.prog 27 [.agg ⟨frCy ty fl st 0 l.length⟩, .agg ⟨ptC0 y⟩] [bRo l] (.tuple #[.agg ⟨ptL (lY ty fl st l y) 1 (lBo ty fl st l).length⟩, .agg ⟨[.int .i64 (lSc ty fl st l), .int .i64 (lCd ty fl st l), .int .i64 (lSn ty fl st l)]⟩]) [bRo l, bOwn (lBo ty fl st l)] := by
  refine con_vc (E := EtRlg) mixed (calls_envT tRlg_ok) (lok_envT _ _) (M := noM) lm_none (Lg_vc y _ ty fl st _ _ _ l _) ?_
  simp only [ofNat_eq, toNat_cast, Nat.zero_add, Nat.add_zero, Nat.mul_one, List.drop_zero, bCells_len, bCells_drop, bCells_take, bCells_app, bCells_one, bCells_plain, List.length_replicate, List.length_append, List.length_take, List.length_drop, List.take_length, and_true, true_and, and_self, decide_true, List.length_nil, List.length_cons, Nat.sub_zero, dB_mk, dB_ro, List.take_zero]
  have b8 : (iand .i64 fl 8 != 0) = bit fl 8 := rfl
  have b1 : (iand .i64 fl 1 != 0) = bit fl 1 := rfl
  have b4 : (iand .i64 fl 4 != 0) = bit fl 4 := rfl
  have b32 : (iand .i64 fl 32 != 0) = bit fl 32 := rfl
  have n4 : ∀ m : List UInt8, low4R ⟨bCells m, true, .cells true⟩ = (low4 m : Nat) := fun m => by unfold low4R; rw [dB_mk]
  have q00 : ((0 : Int) == 0) = true := rfl
  have q01 : ((0 : Int) == 1) = false := rfl
  have q10 : ((1 : Int) == 0) = false := rfl
  have q11 : ((1 : Int) == 1) = true := rfl
  rcases ht with rfl | rfl
  · have t1 : lSc 0 fl st l = dSc fl l := if_pos rfl
    have t2 : lCd 0 fl st l = dCd fl l := if_pos rfl
    have t3 : lSn 0 fl st l = 0 := if_pos rfl
    have t4 : lBo 0 fl st l = dBo fl l := if_pos rfl
    have bd : ∀ h : dSc fl l ≠ 0, dBo fl l = [] := fun h => by unfold dBo; rw [if_neg h]
    have bo : dSc fl l = 0 → dBo fl l = (padR fl l).take ((padR fl l).length - padN fl l) := fun h => by unfold dBo; rw [if_pos h]
    have out : ∀ cd : Int, dSc fl l = 2 → dCd fl l = cd → _ := fun cd h1 h2 => lg_out y 0 fl st l 2 cd 0 (by omega) (t1.trans h1) (t2.trans h2) t3 (t4.trans (bd (by rw [h1]; omega)))
    have good : ∀ (m : List UInt8) (k : Nat), dSc fl l = 0 → dCd fl l = 0 → dBo fl l = m → k = m.length → _ := fun m k h1 h2 h3 h4 => lg_good y 0 fl st l m k y.f (l.length : Int) (if_pos rfl).symm (if_pos rfl).symm (t1.trans h1) (t2.trans h2) t3 (t4.trans h3) h4
    simp only [q00, q01, br_tt0, br_ff0, b8, b1, b4, b32, n4]
    clear n4
    cases h8 : bit fl 8 with
    | false =>
      have p1 : padOk fl l = true := by unfold padOk; rw [h8]; rfl
      have p2 : padN fl l = 0 := by unfold padN; rw [h8]; rfl
      have p3 : padR fl l = l := by unfold padR; rw [h8]; rfl
      have es : dSc fl l = 0 := by unfold dSc; rw [p1, p2, p3]; simp
      have ec : dCd fl l = 0 := by unfold dCd; rw [p1, p2, p3]; simp
      have w0 : IntKind.i64.wrap ((l.length : Int) - 0) = (l.length : Int) := by rw [wr64_id (by unfold I64; omega)]; omega
      simp only [w0, toNat_cast, br_ff0]
      simp (disch := omega) only [brT, br_tt0]
      exact good _ _ es ec (by rw [bo es, p2, p3]; simp) (by simp)
    | true =>
      simp only [br_tt0]
      refine br_intro (fun h => ?_) (fun h => ?_)
      · have h : l = [] := List.eq_nil_of_length_eq_zero (by simp at h; simp [h])
        have p1 : padOk fl l = false := by unfold padOk; rw [h8, h]; rfl
        exact out 6 (by unfold dSc; rw [p1]; rfl) (by unfold dCd; rw [p1]; rfl)
      · have h : 0 < l.length := by simp at h; exact List.length_pos_iff.2 h
        have p1 : padOk fl l = true := by unfold padOk; rw [h8, decide_eq_false (by omega)]; rfl
        have p2 : padN fl l = (l.getD 0 0).toNat := by unfold padN; rw [h8]; rfl
        have p3 : padR fl l = l.drop 1 := by unfold padR; rw [h8]; rfl
        have p4 : (l.drop 1).length = l.length - 1 := by simp
        obtain ⟨c1, c2⟩ := bGet l 0 h
        have kb := u8_lt (l.getD 0 0)
        have w1 : IntKind.i64.wrap (((l.getD 0 0).toNat : Nat) : Int) = (((l.getD 0 0).toNat : Nat) : Int) := wr64_id (by unfold I64; omega)
        have es : dSc fl l = if (l.getD 0 0).toNat > l.length - 1 then 2 else 0 := by unfold dSc; rw [p1, p2, p3, p4]; rfl
        have ec : dCd fl l = if (l.getD 0 0).toNat > l.length - 1 then 1 else 0 := by unfold dCd; rw [p1, p2, p3, p4]; rfl
        simp only [c1, c2, w1, true_and]
        generalize (l.getD 0 0).toNat = a at *
        refine br_dec (by omega) (br_dec (by omega) (br_if (fun k => ?_) (fun k => ?_)))
        · rw [if_pos (by omega)] at es ec
          exact out 1 es ec
        · rw [if_neg (by omega)] at es ec
          have w0 : IntKind.i64.wrap (((l.length - 1 : Nat) : Int) - (a : Int)) = ((l.length - 1 - a : Nat) : Int) := by rw [wr64_id (by unfold I64; omega)]; omega
          simp only [w0, toNat_cast]
          simp (disch := omega) only [brT, br_tt0]
          exact good _ _ es ec (by rw [bo es, p2, p3, p4]) (by simp)
  · have z10 : ¬ (1 : Int) = 0 := by omega
    have t1 : lSc 1 fl st l = hSc fl st l := if_neg z10
    have t2 : lCd 1 fl st l = hCd fl st l := if_neg z10
    have t3 : lSn 1 fl st l = hSn fl st l := if_neg z10
    have t4 : lBo 1 fl st l = hBo fl st l := if_neg z10
    have bd : ∀ h : hSc fl st l ≠ 0, hBo fl st l = [] := fun h => by unfold hBo; rw [if_neg h]
    have bo : hSc fl st l = 0 → hBo fl st l = (hRe fl l).take ((hRe fl l).length - padN fl l) := fun h => by unfold hBo; rw [if_pos h]
    have out : ∀ sc cd sn : Int, hSc fl st l = sc → hCd fl st l = cd → sc ≠ 0 → sn = (if sc = 1 then st else 0) → _ := fun sc cd sn h1 h2 h0 h3 => lg_out y 1 fl st l sc cd sn h0 (t1.trans h1) (t2.trans h2) (by rw [t3, h3]; unfold hSn; rw [h1]) (t4.trans (bd (by rw [h1]; exact h0)))
    have good : ∀ (m : List UInt8) (k : Nat), hSc fl st l = 0 → hCd fl st l = 0 → hBo fl st l = m → k = m.length → _ := fun m k h1 h2 h3 h4 => lg_good y 1 fl st l m k (bit fl 4) y.cs (if_neg z10).symm (if_neg z10).symm (t1.trans h1) (t2.trans h2) (by rw [t3]; unfold hSn; rw [h1]; rfl) (t4.trans h3) h4
    simp only [q10, q11, br_tt0, br_ff0, b8, b1, b4, b32, n4]
    cases h8 : bit fl 8 with
    | false =>
      have p1 : padOk fl l = true := by unfold padOk; rw [h8]; rfl
      have p2 : padN fl l = 0 := by unfold padN; rw [h8]; rfl
      have p3 : padR fl l = l := by unfold padR; rw [h8]; rfl
      simp only [br_ff0]
      refine br_intro (fun h32 => ?_) (fun h32 => ?_)
      · have r1 : hRe fl l = l.drop 5 := by unfold hRe; rw [if_pos h32, p3]
        have es : hSc fl st l = if l.length < 5 then 2 else if (low4 l : Int) = st then 1 else 0 := by unfold hSc; rw [p1, if_pos rfl, if_pos h32, p3, p2]; simp
        have ec : hCd fl st l = if l.length < 5 then 6 else if (low4 l : Int) = st then 1 else 0 := by unfold hCd; rw [p1, if_pos rfl, if_pos h32, p3, p2]; simp
        refine br_if (fun h => ?_) (fun h => ⟨⟨Nat.le_refl _, isB_mk _ _ rfl, by omega, by omega⟩, br_intro (fun k => ?_) (fun k => ?_)⟩)
        · exact out 2 6 0 (by rw [es, if_pos (by omega)]) (by rw [ec, if_pos (by omega)]) (by omega) rfl
        · have k : (low4 l : Int) = st := by simpa using k
          exact out 1 1 st (by rw [es, if_neg (by omega), if_pos k]) (by rw [ec, if_neg (by omega), if_pos k]) (by omega) rfl
        · have k : ¬ (low4 l : Int) = st := by simpa using k
          have es : hSc fl st l = 0 := by rw [es, if_neg (by omega), if_neg k]
          have ec : hCd fl st l = 0 := by rw [ec, if_neg (by omega), if_neg k]
          have w0 : IntKind.i64.wrap (((l.length - 5 : Nat) : Int) - 0) = ((l.length - 5 : Nat) : Int) := by rw [wr64_id (by unfold I64; omega)]; omega
          simp only [w0, toNat_cast]
          simp (disch := omega) only [brT, br_tt0]
          exact good _ _ es ec (by rw [bo es, r1, p2]; simp) (by simp)
      · have r1 : hRe fl l = l := by unfold hRe; rw [if_neg (by rw [h32]; simp), p3]
        have es : hSc fl st l = 0 := by unfold hSc; rw [p1, if_pos rfl, if_neg (by rw [h32]; simp), p2]; simp
        have ec : hCd fl st l = 0 := by unfold hCd; rw [p1, if_pos rfl, if_neg (by rw [h32]; simp), p2]; simp
        have w0 : IntKind.i64.wrap ((l.length : Int) - 0) = (l.length : Int) := by rw [wr64_id (by unfold I64; omega)]; omega
        simp only [w0, toNat_cast]
        simp (disch := omega) only [brT, br_tt0]
        exact good _ _ es ec (by rw [bo es, r1, p2]; simp) (by simp)
    | true =>
      simp only [br_tt0]
      refine br_intro (fun h => ?_) (fun h => ?_)
      · have h : l = [] := List.eq_nil_of_length_eq_zero (by simp at h; simp [h])
        have p1 : padOk fl l = false := by unfold padOk; rw [h8, h]; rfl
        exact out 2 6 0 (by unfold hSc; rw [p1]; rfl) (by unfold hCd; rw [p1]; rfl) (by omega) rfl
      · have h : 0 < l.length := by simp at h; exact List.length_pos_iff.2 h
        have p1 : padOk fl l = true := by unfold padOk; rw [h8, decide_eq_false (by omega)]; rfl
        have p2 : padN fl l = (l.getD 0 0).toNat := by unfold padN; rw [h8]; rfl
        have p3 : padR fl l = l.drop 1 := by unfold padR; rw [h8]; rfl
        have p4 : (l.drop 1).length = l.length - 1 := by simp
        obtain ⟨c1, c2⟩ := bGet l 0 h
        have kb := u8_lt (l.getD 0 0)
        have w1 : IntKind.i64.wrap (((l.getD 0 0).toNat : Nat) : Int) = (((l.getD 0 0).toNat : Nat) : Int) := wr64_id (by unfold I64; omega)
        have tk : List.take (l.length - 1) (l.drop 1) = l.drop 1 := List.take_of_length_le (by simp)
        simp only [c1, c2, w1, true_and, tk, n4]
        generalize (l.getD 0 0).toNat = a at *
        refine br_dec (by omega) (br_dec (by omega) (br_intro (fun h32 => ?_) (fun h32 => ?_)))
        · have r1 : hRe fl l = l.drop 6 := by unfold hRe; rw [if_pos h32, p3, List.drop_drop]
          have rl : (hRe fl l).length = l.length - 6 := by rw [r1]; simp
          have es : hSc fl st l = if l.length - 1 < 5 then 2 else if (low4 (l.drop 1) : Int) = st then 1 else if a > l.length - 6 then 2 else 0 := by unfold hSc; rw [p1, if_pos rfl, if_pos h32, p3, p2, p4, rl]
          have ec : hCd fl st l = if l.length - 1 < 5 then 6 else if (low4 (l.drop 1) : Int) = st then 1 else if a > l.length - 6 then 1 else 0 := by unfold hCd; rw [p1, if_pos rfl, if_pos h32, p3, p2, p4, rl]
          refine br_if (fun q => ?_) (fun q => ⟨⟨by omega, isB_mk _ _ (by simp), by omega, by omega⟩, br_intro (fun k => ?_) (fun k => ?_)⟩)
          · exact out 2 6 0 (by rw [es, if_pos (by omega)]) (by rw [ec, if_pos (by omega)]) (by omega) rfl
          · have k : (low4 (l.drop 1) : Int) = st := by simpa using k
            exact out 1 1 st (by rw [es, if_neg (by omega), if_pos k]) (by rw [ec, if_neg (by omega), if_pos k]) (by omega) rfl
          · have k : ¬ (low4 (l.drop 1) : Int) = st := by simpa using k
            rw [if_neg (by omega), if_neg k] at es ec
            refine br_dec (by omega) (br_if (fun k2 => ?_) (fun k2 => ?_))
            · exact out 2 1 0 (by rw [es, if_pos (by omega)]) (by rw [ec, if_pos (by omega)]) (by omega) rfl
            · rw [if_neg (by omega)] at es ec
              have w0 : IntKind.i64.wrap (((l.length - 1 - 5 : Nat) : Int) - (a : Int)) = ((l.length - 6 - a : Nat) : Int) := by rw [wr64_id (by unfold I64; omega)]; omega
              simp only [w0, toNat_cast]
              simp (disch := omega) only [brT, br_tt0]
              exact good _ _ es ec (by rw [bo es, rl, r1, p2]) (by simp)
        · have r1 : hRe fl l = l.drop 1 := by unfold hRe; rw [if_neg (by rw [h32]; simp), p3]
          have rl : (hRe fl l).length = l.length - 1 := by rw [r1]; simp
          have es : hSc fl st l = if a > l.length - 1 then 2 else 0 := by unfold hSc; rw [p1, if_pos rfl, if_neg (by rw [h32]; simp), p2, rl]
          have ec : hCd fl st l = if a > l.length - 1 then 1 else 0 := by unfold hCd; rw [p1, if_pos rfl, if_neg (by rw [h32]; simp), p2, rl]
          refine br_if (fun k2 => ?_) (fun k2 => ?_)
          · exact out 2 1 0 (by rw [es, if_pos (by omega)]) (by rw [ec, if_pos (by omega)]) (by omega) rfl
          · rw [if_neg (by omega)] at es ec
            have w0 : IntKind.i64.wrap (((l.length - 1 : Nat) : Int) - (a : Int)) = ((l.length - 1 - a : Nat) : Int) := by rw [wr64_id (by unfold I64; omega)]; omega
            simp only [w0, toNat_cast]
            simp (disch := omega) only [brT, br_tt0]
            exact good _ _ es ec (by rw [bo es, rl, r1, p2]) (by simp)
theorem eLong_ok : EntOk Try.prog eLong := entC_ok (by
  intro a rows p v news h hp
  split at h <;> simp only [Option.some.injEq, Prod.mk.injEq, reduceCtorEq] at h
  obtain ⟨rfl, rfl, rfl⟩ := h
  obtain ⟨⟨l, rfl, rfl⟩, h1, h2⟩ := hp
  simp only [lI, lZ, lE, lF, lCs, lScR, lCdR, lSnR, lBn, lBc, dB_ro, List.append_nil]
  exact Lg_con ⟨_, _, _, _, _, _, _, _, _⟩ _ _ _ l h1 h2)
end Go.Proofs.Ytagahikocoggcaa.sh
