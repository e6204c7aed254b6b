/- Frames' parts: numbers of four bytes, settings. -/
import Derived.Test.YtagahikocoggcaaSz9
import Derived.Test.YtagahikocoggcaaRows
import Derived.Test.YtagahikocoggcaaLgl
import Derived.Test.YtagahikocoggcaaLbrt0
set_option maxRecDepth 20000
set_option linter.unusedSimpArgs false
set_option linter.unusedVariables false
namespace Go.Proofs.Ytagahikocoggcaa.sh
open Go Go.Ev Go.Sy Go.RowKit Go.Proofs.Ytagahikocoggcaa.gl
theorem mixed : Try.prog.follows .mixedOrders = true := by kernel_rfl
noncomputable abbrev E0 : Env := envN Try.prog
def num4 : List UInt8 → Nat
  | a :: b :: c :: d :: _ => a.toNat * 16777216 + b.toNat * 65536 + c.toNat * 256 + d.toNat
  | _ => 0
def low4 : List UInt8 → Nat
  | a :: b :: c :: d :: _ => (a.toNat % 128) * 16777216 + b.toNat * 65536 + c.toNat * 256 + d.toNat
  | _ => 0
def num4R (r : Row) : Int := (num4 (dB r) : Nat)
def low4R (r : Row) : Int := (low4 (dB r) : Nat)
structure Se where
  i : Int
  v : Int
def seC (x : Se) : List Value := [.int .i64 x.i, .int .i64 x.v]
def valI (i v : Int) : Int := if i = 2 then (if v = 0 ∨ v = 1 then 0 else 1) else if i = 4 then (if v < 0 ∨ v > 2147483647 then 3 else 0) else if i = 5 then (if v < 16384 ∨ v > 16777215 then 1 else 0) else 0
noncomputable def eNum : EntM := entC 44 fun a r => match a, r with
  | [.slice (some ⟨0, 0, none⟩) n 1], [r0] => some (IsB r0 n ∧ 4 ≤ n ∧ n ≤ maxLen, .int .i64 (num4R r0), [])
  | _, _ => none
noncomputable def eLow : EntM := entC 42 fun a r => match a, r with
  | [.slice (some ⟨0, 0, none⟩) n 1], [r0] => some (IsB r0 n ∧ 4 ≤ n ∧ n ≤ maxLen, .int .i64 (low4R r0), [])
  | _, _ => none
noncomputable def eVal : EntM := entC 45 fun a r => match a, r with
  | [.agg ⟨[.int .i64 i, .int .i64 v]⟩], [] => some (True, .int .i64 (valI i v), [])
  | _, _ => none
noncomputable def tNum : List EntM := [eNum]
noncomputable abbrev EtNum : Env := envT Try.prog tNum
noncomputable def tSet : List EntM := [eNum, eVal]
noncomputable abbrev EtSet : Env := envT Try.prog tSet
def sets : List UInt8 → List Se
  | a :: b :: c :: d :: e :: f :: r => ⟨(a.toNat * 256 + b.toNat : Nat), (num4 [c, d, e, f] : Nat)⟩ :: sets r
  | _ => []
def seErr : List Se → Int
  | [] => 0
  | s :: l => if valI s.i s.v = 0 then seErr l else valI s.i s.v
def seGood : List Se → List Se
  | [] => []
  | s :: l => if valI s.i s.v = 0 then s :: seGood l else []
structure PtY where
  ty : Int
  st : Int
  e : Bool
  f : Bool
  a : Bool
  co : Int
  la : Int
  mo : Int
  cs : Int
def ptCy (y : PtY) (rb nb rs ns : Nat) : List Value := [.int .i64 y.ty, .int .i64 y.st, .bool y.e, .bool y.f, .bool y.a, .slice (some ⟨rb, 0, none⟩) nb 1, .int .i64 y.co, .int .i64 y.la, .int .i64 y.mo, .int .i64 y.cs, .slice (some ⟨rs, 0, none⟩) ns 2]
def bit (f k : Int) : Bool := iand .i64 f k != 0
def stBad (fl : Int) (l : List UInt8) : Bool := decide (l.length % 6 ≠ 0) || (bit fl 1 && decide (0 < l.length))
def stSc (fl : Int) (l : List UInt8) : Int := if stBad fl l then 2 else if seErr (sets l) = 0 then 0 else 2
def stCd (fl : Int) (l : List UInt8) : Int := if stBad fl l then 6 else seErr (sets l)
def stSe (fl : Int) (l : List UInt8) : List Se := if stBad fl l then [] else seGood (sets l)
def e28 (sc cd : Int) : Row := ⟨[.int .i64 sc, .int .i64 cd, .int .i64 0], false, .cells false⟩
def ptC0 (y : PtY) : List Value := [.int .i64 y.ty, .int .i64 y.st, .bool y.e, .bool y.f, .bool y.a, .slice none 0 0, .int .i64 y.co, .int .i64 y.la, .int .i64 y.mo, .int .i64 y.cs, .slice none 0 0]
def ptC1 (y : PtY) (rs ns : Nat) : List Value := [.int .i64 y.ty, .int .i64 y.st, .bool y.e, .bool y.f, .bool y.a, .slice none 0 0, .int .i64 y.co, .int .i64 y.la, .int .i64 y.mo, .int .i64 y.cs, .slice (some ⟨rs, 0, none⟩) ns 2]
def frCy (ty fl st : Int) (r n : Nat) : List Value := [.int .i64 ty, .int .i64 fl, .int .i64 st, .slice (some ⟨r, 0, none⟩) n 1]
def pSet : List Nat := [0, 1, 0, 1, 1, 1]
structure GSet where
  l : List UInt8
  y : PtY
structure StSet where
  i : Nat
  acc : List Se
def slSet (g : GSet) (s : StSet) : List (Nat × Value) := [(0, .pointer (some ⟨0, 0, none⟩)), (4, .pointer (some ⟨2, 0, none⟩)), (5, .slice (some ⟨1, 6 * s.i, none⟩) (g.l.length - 6 * s.i) 1)]
def rlSet0 (g : GSet) (acc : List Se) (sc cd : Int) : List (Nat × Row) := [(0, ⟨ptC1 g.y 3 acc.length, false, .cells false⟩), (1, bRo g.l), (2, e28 sc cd), (3, gOwn seC acc)]
def rlSet (g : GSet) (s : StSet) : List (Nat × Row) := rlSet0 g s.acc 0 0
def wsSet (g : GSet) : List (Gate Unit) := [⟨.exit 0, fun _ => seErr (sets g.l) = 0, fun _ => [(4, .pointer (some ⟨2, 0, none⟩))], fun _ => rlSet0 g (seGood (sets g.l)) 0 0, 4⟩, ⟨.ret, fun _ => seErr (sets g.l) ≠ 0, fun _ => [(4, .pointer (some ⟨2, 0, none⟩))], fun _ => rlSet0 g (seGood (sets g.l)) 2 (seErr (sets g.l)), 4⟩]
def specSet : Sy.Spec := specOf 2 4 71 (fun g : GSet => g.l.length % 6 = 0 ∧ g.l.length ≤ 16777216) (fun g => slSet g ⟨0, []⟩) (fun g => rlSet g ⟨0, []⟩) wsSet
def mSet := mOf [(35, pSet, specSet)]
theorem num_vc (l : List UInt8) (n : Nat) (v : Int) : mcall E0 noM 60 44 [.slice (some ⟨0, 0, none⟩) n 1] ⟨mkR (nums 0 [bRo l]), 1⟩ (retIs 1 (.int .i64 v) [bRo l]) =
  (br (decide ((0 : Int) ≤ (0 : Int) ∧ (0 : Int) < (↑n : Int)))
   ((Eq (α := Option Value) ((bCells l)[(0 : Nat)]?) (some (Value.int IntKind.u8 (cellI (bCells l) (0 : Nat))))) ∧
   (br (decide ((0 : Int) ≤ (1 : Int) ∧ (1 : Int) < (↑n : Int)))
    ((Eq (α := Option Value) ((bCells l)[(1 : Nat)]?) (some (Value.int IntKind.u8 (cellI (bCells l) (1 : Nat))))) ∧
    (br (decide ((0 : Int) ≤ (2 : Int) ∧ (2 : Int) < (↑n : Int)))
     ((Eq (α := Option Value) ((bCells l)[(2 : Nat)]?) (some (Value.int IntKind.u8 (cellI (bCells l) (2 : Nat))))) ∧
     (br (decide ((0 : Int) ≤ (3 : Int) ∧ (3 : Int) < (↑n : Int)))
      ((Eq (α := Option Value) ((bCells l)[(3 : Nat)]?) (some (Value.int IntKind.u8 (cellI (bCells l) (3 : Nat))))) ∧
      ((Eq (α := Option Value) ((bCells l)[(0 : Nat)]?) (some (Value.int IntKind.u8 (cellI (bCells l) (0 : Nat))))) ∧
      ((Value.int IntKind.u8 (cellI (bCells l) (0 : Nat)) = Value.int IntKind.u8 (cellI (bCells l) (0 : Nat))) ∧
      ((Value.int IntKind.i64 (IntKind.wrap IntKind.i64 (cellI (bCells l) (0 : Nat))) = Value.int IntKind.i64 (IntKind.wrap IntKind.i64 (cellI (bCells l) (0 : Nat)))) ∧
      ((Eq (α := Option Value) ((bCells l)[(1 : Nat)]?) (some (Value.int IntKind.u8 (cellI (bCells l) (1 : Nat))))) ∧
      ((Value.int IntKind.u8 (cellI (bCells l) (1 : Nat)) = Value.int IntKind.u8 (cellI (bCells l) (1 : Nat))) ∧
      ((Value.int IntKind.i64 (IntKind.wrap IntKind.i64 (cellI (bCells l) (1 : Nat))) = Value.int IntKind.i64 (IntKind.wrap IntKind.i64 (cellI (bCells l) (1 : Nat)))) ∧
      ((Eq (α := Option Value) ((bCells l)[(2 : Nat)]?) (some (Value.int IntKind.u8 (cellI (bCells l) (2 : Nat))))) ∧
      ((Value.int IntKind.u8 (cellI (bCells l) (2 : Nat)) = Value.int IntKind.u8 (cellI (bCells l) (2 : Nat))) ∧
      ((Value.int IntKind.i64 (IntKind.wrap IntKind.i64 (cellI (bCells l) (2 : Nat))) = Value.int IntKind.i64 (IntKind.wrap IntKind.i64 (cellI (bCells l) (2 : Nat)))) ∧
      ((Eq (α := Option Value) ((bCells l)[(3 : Nat)]?) (some (Value.int IntKind.u8 (cellI (bCells l) (3 : Nat))))) ∧
      ((Value.int IntKind.u8 (cellI (bCells l) (3 : Nat)) = Value.int IntKind.u8 (cellI (bCells l) (3 : Nat))) ∧
      ((Value.int IntKind.i64 (IntKind.wrap IntKind.i64 (cellI (bCells l) (3 : Nat))) = Value.int IntKind.i64 (IntKind.wrap IntKind.i64 (cellI (bCells l) (3 : Nat)))) ∧
      ((v = ior IntKind.i64 (ior IntKind.i64 (ior IntKind.i64 (ishl IntKind.i64 (IntKind.wrap IntKind.i64 (cellI (bCells l) (0 : Nat))) (24 : Int)) (ishl IntKind.i64 (IntKind.wrap IntKind.i64 (cellI (bCells l) (1 : Nat))) (16 : Int))) (ishl IntKind.i64 (IntKind.wrap IntKind.i64 (cellI (bCells l) (2 : Nat))) (8 : Int))) (IntKind.wrap IntKind.i64 (cellI (bCells l) (3 : Nat)))) ∧
      ((Eq (α := List Value) (bCells l) (bCells l)) ∧
      ((Plain (bCells l)) ∧
      True))))))))))))))))
      False))
     False))
    False))
   False) := by kernel_rfl
theorem low_vc (l : List UInt8) (n : Nat) (v : Int) : mcall EtNum noM 60 42 [.slice (some ⟨0, 0, none⟩) n 1] ⟨mkR (nums 0 [bRo l]), 1⟩ (retIs 1 (.int .i64 v) [bRo l]) =
  ((((((0 : Nat) + n * (1 : Nat) ≤ List.length (bCells l) ∧ Plain (List.take (n * (1 : Nat)) (List.drop (0 : Nat) (bCells l)))) ∧ True) ∧ ((True ∧ True) ∧ (True ∧ (IsB (Row.mk (List.take (n * (1 : Nat)) (List.drop (0 : Nat) (bCells l))) true (Ob.cells true)) n ∧ ((4 : Nat) ≤ n ∧ n ≤ (9223372036854775807 : Nat))))))) ∧
  ((v = iand IntKind.i64 (num4R (Row.mk (List.take (n * (1 : Nat)) (List.drop (0 : Nat) (bCells l))) true (Ob.cells true))) (2147483647 : Int)) ∧
  ((Eq (α := List Value) (bCells l) (bCells l)) ∧
  ((Plain (bCells l)) ∧
  True)))) := by kernel_rfl
theorem val_vc (s : Se) (z : Int) : mcall E0 noM 60 45 [.agg ⟨seC s⟩] ⟨mkR (nums 0 []), 0⟩ (retIs 0 (.int .i64 z) []) =
  (br (s.1 == (2 : Int))
   (br (s.2 != (0 : Int))
    (br (s.2 != (1 : Int))
     ((z = (1 : Int)) ∧
     True)
     ((z = (0 : Int)) ∧
     True))
    ((z = (0 : Int)) ∧
    True))
   (br (s.1 == (4 : Int))
    (br (decide (s.2 < (0 : Int)))
     ((z = (3 : Int)) ∧
     True)
     (br (decide (s.2 > (2147483647 : Int)))
      ((z = (3 : Int)) ∧
      True)
      ((z = (0 : Int)) ∧
      True)))
    (br (s.1 == (5 : Int))
     (br (decide (s.2 < (16384 : Int)))
      ((z = (1 : Int)) ∧
      True)
      (br (decide (s.2 > (16777215 : Int)))
       ((z = (1 : Int)) ∧
       True)
       ((z = (0 : Int)) ∧
       True)))
     ((z = (0 : Int)) ∧
     True)))) := by kernel_rfl
theorem Set_round (g : GSet) (s : StSet) (Inv : StSet → Prop) (m : StSet → Nat) : mev EtSet noM 60 35 (0 :: pSet) false (codeOf Try.prog 35 (0 :: pSet)) ⟨mkOv (slSet g s), 71, []⟩ none ⟨mkR (rlSet g s), 4⟩ (roundK 2 4 71 Inv m (slSet g) (rlSet g) (wsSet g) s) =
  (br (decide (Int.ofNat (List.length g.1 - (6 : Nat) * s.1) > (0 : Int)))
   (br (decide ((0 : Int) ≤ (0 : Int) ∧ (0 : Int) < (↑(List.length g.1 - (6 : Nat) * s.1) : Int)))
    ((Eq (α := Option Value) ((bCells g.1)[(6 : Nat) * s.1 + (0 : Nat)]?) (some (Value.int IntKind.u8 (cellI (bCells g.1) ((6 : Nat) * s.1 + (0 : Nat)))))) ∧
    (br (decide ((0 : Int) ≤ (1 : Int) ∧ (1 : Int) < (↑(List.length g.1 - (6 : Nat) * s.1) : Int)))
     ((Eq (α := Option Value) ((bCells g.1)[(6 : Nat) * s.1 + (1 : Nat)]?) (some (Value.int IntKind.u8 (cellI (bCells g.1) ((6 : Nat) * s.1 + (1 : Nat)))))) ∧
     (br (decide ((0 : Int) ≤ (2 : Int) ∧ (2 : Int) ≤ (↑(List.length g.1 - (6 : Nat) * s.1) : Int) ∧ (↑(List.length g.1 - (6 : Nat) * s.1) : Int) ≤ (↑(List.length g.1 - (6 : Nat) * s.1) : Int)))
      ((((((6 : Nat) * s.1 + (2 : Nat) + (Int.toNat (↑(List.length g.1 - (6 : Nat) * s.1) : Int) - (2 : Nat)) * (1 : Nat) ≤ List.length (bCells g.1) ∧ Plain (List.take ((Int.toNat (↑(List.length g.1 - (6 : Nat) * s.1) : Int) - (2 : Nat)) * (1 : Nat)) (List.drop ((6 : Nat) * s.1 + (2 : Nat)) (bCells g.1)))) ∧ True) ∧ ((True ∧ True) ∧ (True ∧ (IsB (Row.mk (List.take ((Int.toNat (↑(List.length g.1 - (6 : Nat) * s.1) : Int) - (2 : Nat)) * (1 : Nat)) (List.drop ((6 : Nat) * s.1 + (2 : Nat)) (bCells g.1))) true (Ob.cells true)) (Int.toNat (↑(List.length g.1 - (6 : Nat) * s.1) : Int) - (2 : Nat)) ∧ ((4 : Nat) ≤ Int.toNat (↑(List.length g.1 - (6 : Nat) * s.1) : Int) - (2 : Nat) ∧ Int.toNat (↑(List.length g.1 - (6 : Nat) * s.1) : Int) - (2 : Nat) ≤ (9223372036854775807 : Nat))))))) ∧
      ((Eq (α := Option Value) ((bCells g.1)[(6 : Nat) * s.1 + (0 : Nat)]?) (some (Value.int IntKind.u8 (cellI (bCells g.1) ((6 : Nat) * s.1 + (0 : Nat)))))) ∧
      ((Value.int IntKind.u8 (cellI (bCells g.1) ((6 : Nat) * s.1 + (0 : Nat))) = Value.int IntKind.u8 (cellI (bCells g.1) ((6 : Nat) * s.1 + (0 : Nat)))) ∧
      ((Eq (α := Option Value) ((bCells g.1)[(6 : Nat) * s.1 + (0 : Nat)]?) (some (Value.int IntKind.u8 (cellI (bCells g.1) ((6 : Nat) * s.1 + (0 : Nat)))))) ∧
      ((Value.int IntKind.u8 (cellI (bCells g.1) ((6 : Nat) * s.1 + (0 : Nat))) = Value.int IntKind.u8 (cellI (bCells g.1) ((6 : Nat) * s.1 + (0 : Nat)))) ∧
      ((Value.int IntKind.i64 (IntKind.wrap IntKind.i64 (cellI (bCells g.1) ((6 : Nat) * s.1 + (0 : Nat)))) = Value.int IntKind.i64 (IntKind.wrap IntKind.i64 (cellI (bCells g.1) ((6 : Nat) * s.1 + (0 : Nat))))) ∧
      ((Value.int IntKind.i64 (IntKind.wrap IntKind.i64 (cellI (bCells g.1) ((6 : Nat) * s.1 + (0 : Nat)))) = Value.int IntKind.i64 (IntKind.wrap IntKind.i64 (cellI (bCells g.1) ((6 : Nat) * s.1 + (0 : Nat))))) ∧
      ((Eq (α := Option Value) ((bCells g.1)[(6 : Nat) * s.1 + (1 : Nat)]?) (some (Value.int IntKind.u8 (cellI (bCells g.1) ((6 : Nat) * s.1 + (1 : Nat)))))) ∧
      ((Value.int IntKind.u8 (cellI (bCells g.1) ((6 : Nat) * s.1 + (1 : Nat))) = Value.int IntKind.u8 (cellI (bCells g.1) ((6 : Nat) * s.1 + (1 : Nat)))) ∧
      ((Eq (α := Option Value) ((bCells g.1)[(6 : Nat) * s.1 + (1 : Nat)]?) (some (Value.int IntKind.u8 (cellI (bCells g.1) ((6 : Nat) * s.1 + (1 : Nat)))))) ∧
      ((Value.int IntKind.u8 (cellI (bCells g.1) ((6 : Nat) * s.1 + (1 : Nat))) = Value.int IntKind.u8 (cellI (bCells g.1) ((6 : Nat) * s.1 + (1 : Nat)))) ∧
      ((Value.int IntKind.i64 (IntKind.wrap IntKind.i64 (cellI (bCells g.1) ((6 : Nat) * s.1 + (1 : Nat)))) = Value.int IntKind.i64 (IntKind.wrap IntKind.i64 (cellI (bCells g.1) ((6 : Nat) * s.1 + (1 : Nat))))) ∧
      ((Value.int IntKind.i64 (IntKind.wrap IntKind.i64 (cellI (bCells g.1) ((6 : Nat) * s.1 + (1 : Nat)))) = Value.int IntKind.i64 (IntKind.wrap IntKind.i64 (cellI (bCells g.1) ((6 : Nat) * s.1 + (1 : Nat))))) ∧
      (br (decide ((0 : Int) ≤ (2 : Int) ∧ (2 : Int) ≤ (↑(List.length g.1 - (6 : Nat) * s.1) : Int) ∧ (↑(List.length g.1 - (6 : Nat) * s.1) : Int) ≤ (↑(List.length g.1 - (6 : Nat) * s.1) : Int)))
       ((Value.slice (some (Addr.mk (1 : Nat) ((6 : Nat) * s.1 + (2 : Nat)) none)) (Int.toNat (↑(List.length g.1 - (6 : Nat) * s.1) : Int) - (2 : Nat)) (1 : Nat) = Value.slice (some (Addr.mk (1 : Nat) ((6 : Nat) * s.1 + (2 : Nat)) none)) (Int.toNat (↑(List.length g.1 - (6 : Nat) * s.1) : Int) - (2 : Nat)) (1 : Nat)) ∧
       (((((True ∧ (True ∧ True)) ∧ True) ∧ (True ∧ (True ∧ True)))) ∧
       (br (valI (ior IntKind.i64 (ishl IntKind.i64 (IntKind.wrap IntKind.i64 (cellI (bCells g.1) ((6 : Nat) * s.1 + (0 : Nat)))) (8 : Int)) (IntKind.wrap IntKind.i64 (cellI (bCells g.1) ((6 : Nat) * s.1 + (1 : Nat))))) (num4R (Row.mk (List.take ((Int.toNat (↑(List.length g.1 - (6 : Nat) * s.1) : Int) - (2 : Nat)) * (1 : Nat)) (List.drop ((6 : Nat) * s.1 + (2 : Nat)) (bCells g.1))) true (Ob.cells true))) != (0 : Int))
        (∃ y : Unit, ((seErr (sets g.1) ≠ (0 : Int)) ∧
        (((0 : Nat) = (0 : Nat)) ∧
        ((g.2.1 = g.2.1) ∧
        ((g.2.2 = g.2.2) ∧
        ((g.2.3 = g.2.3) ∧
        ((g.2.4 = g.2.4) ∧
        ((g.2.5 = g.2.5) ∧
        ((g.2.6 = g.2.6) ∧
        ((g.2.7 = g.2.7) ∧
        ((g.2.8 = g.2.8) ∧
        ((g.2.9 = g.2.9) ∧
        (((0 : Nat) = (0 : Nat)) ∧
        ((List.length (seGood (sets g.1)) = List.length s.2) ∧
        ((Eq (α := List Value) (bCells g.1) (bCells g.1)) ∧
        ((Plain (bCells g.1)) ∧
        (((2 : Int) = (2 : Int)) ∧
        ((seErr (sets g.1) = valI (ior IntKind.i64 (ishl IntKind.i64 (IntKind.wrap IntKind.i64 (cellI (bCells g.1) ((6 : Nat) * s.1 + (0 : Nat)))) (8 : Int)) (IntKind.wrap IntKind.i64 (cellI (bCells g.1) ((6 : Nat) * s.1 + (1 : Nat))))) (num4R (Row.mk (List.take ((Int.toNat (↑(List.length g.1 - (6 : Nat) * s.1) : Int) - (2 : Nat)) * (1 : Nat)) (List.drop ((6 : Nat) * s.1 + (2 : Nat)) (bCells g.1))) true (Ob.cells true)))) ∧
        (((0 : Int) = (0 : Int)) ∧
        ((Eq (α := List Value) (gC seC (seGood (sets g.1))) (gC seC s.2)) ∧
        ((Plain (gC seC (seGood (sets g.1)))) ∧
        True)))))))))))))))))))))
        (br (decide (List.length s.2 + (1 : Nat) ≤ (16777216 : Nat)))
         (br (decide ((0 : Nat) + List.length s.2 * (2 : Nat) ≤ List.length (gC seC s.2)))
          ((Value.slice (some (Addr.mk (3 : Nat) (0 : Nat) none)) (List.length s.2) (2 : Nat) = Value.slice (some (Addr.mk (3 : Nat) (0 : Nat) none)) (List.length s.2) (2 : Nat)) ∧
          ((Value.agg (Array.mk [Value.int IntKind.i64 (ior IntKind.i64 (ishl IntKind.i64 (IntKind.wrap IntKind.i64 (cellI (bCells g.1) ((6 : Nat) * s.1 + (0 : Nat)))) (8 : Int)) (IntKind.wrap IntKind.i64 (cellI (bCells g.1) ((6 : Nat) * s.1 + (1 : Nat))))), Value.int IntKind.i64 (num4R (Row.mk (List.take ((Int.toNat (↑(List.length g.1 - (6 : Nat) * s.1) : Int) - (2 : Nat)) * (1 : Nat)) (List.drop ((6 : Nat) * s.1 + (2 : Nat)) (bCells g.1))) true (Ob.cells true)))]) = Value.agg (Array.mk [Value.int IntKind.i64 (ior IntKind.i64 (ishl IntKind.i64 (IntKind.wrap IntKind.i64 (cellI (bCells g.1) ((6 : Nat) * s.1 + (0 : Nat)))) (8 : Int)) (IntKind.wrap IntKind.i64 (cellI (bCells g.1) ((6 : Nat) * s.1 + (1 : Nat))))), Value.int IntKind.i64 (num4R (Row.mk (List.take ((Int.toNat (↑(List.length g.1 - (6 : Nat) * s.1) : Int) - (2 : Nat)) * (1 : Nat)) (List.drop ((6 : Nat) * s.1 + (2 : Nat)) (bCells g.1))) true (Ob.cells true)))])) ∧
          (br (decide ((0 : Int) ≤ (6 : Int) ∧ (6 : Int) ≤ (↑(List.length g.1 - (6 : Nat) * s.1) : Int) ∧ (↑(List.length g.1 - (6 : Nat) * s.1) : Int) ≤ (↑(List.length g.1 - (6 : Nat) * s.1) : Int)))
           (∃ j : StSet, ((Inv j) ∧
           ((m j < m s) ∧
           (((0 : Nat) = (0 : Nat)) ∧
           (((0 : Nat) = (0 : Nat)) ∧
           (((6 : Nat) * j.1 = (6 : Nat) * s.1 + (6 : Nat)) ∧
           ((List.length g.1 - (6 : Nat) * j.1 = Int.toNat (↑(List.length g.1 - (6 : Nat) * s.1) : Int) - (6 : Nat)) ∧
           ((g.2.1 = g.2.1) ∧
           ((g.2.2 = g.2.2) ∧
           ((g.2.3 = g.2.3) ∧
           ((g.2.4 = g.2.4) ∧
           ((g.2.5 = g.2.5) ∧
           ((g.2.6 = g.2.6) ∧
           ((g.2.7 = g.2.7) ∧
           ((g.2.8 = g.2.8) ∧
           ((g.2.9 = g.2.9) ∧
           (((0 : Nat) = (0 : Nat)) ∧
           ((List.length j.2 = List.length s.2 + (1 : Nat)) ∧
           ((Eq (α := List Value) (bCells g.1) (bCells g.1)) ∧
           ((Plain (bCells g.1)) ∧
           (((0 : Int) = (0 : Int)) ∧
           (((0 : Int) = (0 : Int)) ∧
           (((0 : Int) = (0 : Int)) ∧
           ((Eq (α := List Value) (gC seC j.2) (List.take (List.length s.2 * (2 : Nat)) (List.drop (0 : Nat) (gC seC s.2)) ++ [Value.int IntKind.i64 (ior IntKind.i64 (ishl IntKind.i64 (IntKind.wrap IntKind.i64 (cellI (bCells g.1) ((6 : Nat) * s.1 + (0 : Nat)))) (8 : Int)) (IntKind.wrap IntKind.i64 (cellI (bCells g.1) ((6 : Nat) * s.1 + (1 : Nat))))), Value.int IntKind.i64 (num4R (Row.mk (List.take ((Int.toNat (↑(List.length g.1 - (6 : Nat) * s.1) : Int) - (2 : Nat)) * (1 : Nat)) (List.drop ((6 : Nat) * s.1 + (2 : Nat)) (bCells g.1))) true (Ob.cells true)))])) ∧
           ((Plain (gC seC j.2)) ∧
           True)))))))))))))))))))))))))
           False)))
          False)
         False))))
       False))))))))))))))
      False))
     False))
    False)
   (∃ y : Unit, ((seErr (sets g.1) = (0 : Int)) ∧
   (((0 : Nat) = (0 : Nat)) ∧
   ((g.2.1 = g.2.1) ∧
   ((g.2.2 = g.2.2) ∧
   ((g.2.3 = g.2.3) ∧
   ((g.2.4 = g.2.4) ∧
   ((g.2.5 = g.2.5) ∧
   ((g.2.6 = g.2.6) ∧
   ((g.2.7 = g.2.7) ∧
   ((g.2.8 = g.2.8) ∧
   ((g.2.9 = g.2.9) ∧
   (((0 : Nat) = (0 : Nat)) ∧
   ((List.length (seGood (sets g.1)) = List.length s.2) ∧
   ((Eq (α := List Value) (bCells g.1) (bCells g.1)) ∧
   ((Plain (bCells g.1)) ∧
   (((0 : Int) = (0 : Int)) ∧
   (((0 : Int) = (0 : Int)) ∧
   (((0 : Int) = (0 : Int)) ∧
   ((Eq (α := List Value) (gC seC (seGood (sets g.1))) (gC seC s.2)) ∧
   ((Plain (gC seC (seGood (sets g.1)))) ∧
   True)))))))))))))))))))))) := by kernel_rfl
theorem Set_vc (y z : PtY) (ty fl st sc cd : Int) (l : List UInt8) (s : List Se) : mcall EtSet mSet 60 35 [.pointer (some ⟨0, 0, none⟩), .agg ⟨frCy ty fl st 1 l.length⟩] ⟨mkR (nums 0 [⟨ptC0 y, false, .cells false⟩, bRo l]), 2⟩ (retIsM 2 (.agg ⟨[.int .i64 sc, .int .i64 cd, .int .i64 0]⟩) 3 [(0, ⟨ptC1 z 2 s.length, false, .cells false⟩), (2, gOwn seC s)]) =
  (br (Int.tmod (Int.ofNat (List.length l)) (6 : Int) != (0 : Int))
   ((sc = (2 : Int)) ∧
   ((cd = (6 : Int)) ∧
   (((0 : Int) = (0 : Int)) ∧
   ((z.1 = y.1) ∧
   ((z.2 = y.2) ∧
   ((z.3 = y.3) ∧
   ((z.4 = y.4) ∧
   ((z.5 = (iand IntKind.i64 fl (1 : Int) != (0 : Int))) ∧
   ((z.6 = y.6) ∧
   ((z.7 = y.7) ∧
   ((z.8 = y.8) ∧
   ((z.9 = y.9) ∧
   ((List.length s = (0 : Nat)) ∧
   ((Eq (α := List Value) (gC seC s) ([])) ∧
   True))))))))))))))
   (br (iand IntKind.i64 fl (1 : Int) != (0 : Int))
    (br (decide (Int.ofNat (List.length l) > (0 : Int)))
     ((sc = (2 : Int)) ∧
     ((cd = (6 : Int)) ∧
     (((0 : Int) = (0 : Int)) ∧
     ((z.1 = y.1) ∧
     ((z.2 = y.2) ∧
     ((z.3 = y.3) ∧
     ((z.4 = y.4) ∧
     ((z.5 = (iand IntKind.i64 fl (1 : Int) != (0 : Int))) ∧
     ((z.6 = y.6) ∧
     ((z.7 = y.7) ∧
     ((z.8 = y.8) ∧
     ((z.9 = y.9) ∧
     ((List.length s = (0 : Nat)) ∧
     ((Eq (α := List Value) (gC seC s) ([])) ∧
     True))))))))))))))
     (∃ g : GSet, ((List.length g.1 % (6 : Nat) = (0 : Nat) ∧ List.length g.1 ≤ (16777216 : Nat)) ∧
     (((0 : Nat) = (0 : Nat)) ∧
     (((0 : Nat) = (0 : Nat)) ∧
     (((0 : Nat) = (0 : Nat)) ∧
     ((List.length g.1 - (0 : Nat) = List.length l) ∧
     ((g.2.1 = y.1) ∧
     ((g.2.2 = y.2) ∧
     ((g.2.3 = y.3) ∧
     ((g.2.4 = y.4) ∧
     ((g.2.5 = (iand IntKind.i64 fl (1 : Int) != (0 : Int))) ∧
     ((g.2.6 = y.6) ∧
     ((g.2.7 = y.7) ∧
     ((g.2.8 = y.8) ∧
     ((g.2.9 = y.9) ∧
     (((0 : Nat) = (0 : Nat)) ∧
     ((Eq (α := List Value) (bCells g.1) (bCells l)) ∧
     ((Plain (bCells g.1)) ∧
     (((0 : Int) = (0 : Int)) ∧
     (((0 : Int) = (0 : Int)) ∧
     (((0 : Int) = (0 : Int)) ∧
     ((Eq (α := List Value) ([]) ([])) ∧
     (∀ (side : Bool), (br (side)
      (∀ (y2 : Unit), ((seErr (sets g.1) = (0 : Int)) →
      ((sc = (0 : Int)) ∧
      ((cd = (0 : Int)) ∧
      (((0 : Int) = (0 : Int)) ∧
      ((z.1 = g.2.1) ∧
      ((z.2 = g.2.2) ∧
      ((z.3 = g.2.3) ∧
      ((z.4 = g.2.4) ∧
      ((z.5 = g.2.5) ∧
      ((z.6 = g.2.6) ∧
      ((z.7 = g.2.7) ∧
      ((z.8 = g.2.8) ∧
      ((z.9 = g.2.9) ∧
      (((0 : Nat) = (0 : Nat)) ∧
      ((List.length s = List.length (seGood (sets g.1))) ∧
      ((Eq (α := List Value) (gC seC s) (gC seC (seGood (sets g.1)))) ∧
      ((Plain (gC seC s)) ∧
      True))))))))))))))))))
      (∀ (y2 : Unit), ((seErr (sets g.1) ≠ (0 : Int)) →
      ((sc = (2 : Int)) ∧
      ((cd = seErr (sets g.1)) ∧
      (((0 : Int) = (0 : Int)) ∧
      ((z.1 = g.2.1) ∧
      ((z.2 = g.2.2) ∧
      ((z.3 = g.2.3) ∧
      ((z.4 = g.2.4) ∧
      ((z.5 = g.2.5) ∧
      ((z.6 = g.2.6) ∧
      ((z.7 = g.2.7) ∧
      ((z.8 = g.2.8) ∧
      ((z.9 = g.2.9) ∧
      (((0 : Nat) = (0 : Nat)) ∧
      ((List.length s = List.length (seGood (sets g.1))) ∧
      ((Eq (α := List Value) (gC seC s) (gC seC (seGood (sets g.1)))) ∧
      ((Plain (gC seC s)) ∧
      True)))))))))))))))))))))))))))))))))))))))))))
    (∃ g : GSet, ((List.length g.1 % (6 : Nat) = (0 : Nat) ∧ List.length g.1 ≤ (16777216 : Nat)) ∧
    (((0 : Nat) = (0 : Nat)) ∧
    (((0 : Nat) = (0 : Nat)) ∧
    (((0 : Nat) = (0 : Nat)) ∧
    ((List.length g.1 - (0 : Nat) = List.length l) ∧
    ((g.2.1 = y.1) ∧
    ((g.2.2 = y.2) ∧
    ((g.2.3 = y.3) ∧
    ((g.2.4 = y.4) ∧
    ((g.2.5 = (iand IntKind.i64 fl (1 : Int) != (0 : Int))) ∧
    ((g.2.6 = y.6) ∧
    ((g.2.7 = y.7) ∧
    ((g.2.8 = y.8) ∧
    ((g.2.9 = y.9) ∧
    (((0 : Nat) = (0 : Nat)) ∧
    ((Eq (α := List Value) (bCells g.1) (bCells l)) ∧
    ((Plain (bCells g.1)) ∧
    (((0 : Int) = (0 : Int)) ∧
    (((0 : Int) = (0 : Int)) ∧
    (((0 : Int) = (0 : Int)) ∧
    ((Eq (α := List Value) ([]) ([])) ∧
    (∀ (side : Bool), (br (side)
     (∀ (y2 : Unit), ((seErr (sets g.1) = (0 : Int)) →
     ((sc = (0 : Int)) ∧
     ((cd = (0 : Int)) ∧
     (((0 : Int) = (0 : Int)) ∧
     ((z.1 = g.2.1) ∧
     ((z.2 = g.2.2) ∧
     ((z.3 = g.2.3) ∧
     ((z.4 = g.2.4) ∧
     ((z.5 = g.2.5) ∧
     ((z.6 = g.2.6) ∧
     ((z.7 = g.2.7) ∧
     ((z.8 = g.2.8) ∧
     ((z.9 = g.2.9) ∧
     (((0 : Nat) = (0 : Nat)) ∧
     ((List.length s = List.length (seGood (sets g.1))) ∧
     ((Eq (α := List Value) (gC seC s) (gC seC (seGood (sets g.1)))) ∧
     ((Plain (gC seC s)) ∧
     True))))))))))))))))))
     (∀ (y2 : Unit), ((seErr (sets g.1) ≠ (0 : Int)) →
     ((sc = (2 : Int)) ∧
     ((cd = seErr (sets g.1)) ∧
     (((0 : Int) = (0 : Int)) ∧
     ((z.1 = g.2.1) ∧
     ((z.2 = g.2.2) ∧
     ((z.3 = g.2.3) ∧
     ((z.4 = g.2.4) ∧
     ((z.5 = g.2.5) ∧
     ((z.6 = g.2.6) ∧
     ((z.7 = g.2.7) ∧
     ((z.8 = g.2.8) ∧
     ((z.9 = g.2.9) ∧
     (((0 : Nat) = (0 : Nat)) ∧
     ((List.length s = List.length (seGood (sets g.1))) ∧
     ((Eq (α := List Value) (gC seC s) (gC seC (seGood (sets g.1)))) ∧
     ((Plain (gC seC s)) ∧
     True)))))))))))))))))))))))))))))))))))))))))))) := by kernel_rfl
theorem seK (a : Se) : (seC a).length = 2 := rfl
theorem seP (a : Se) : Plain (seC a) := by intro v hv; simp [seC] at hv; rcases hv with rfl | rfl <;> rfl
theorem seL (l : List Se) : (gC seC l).length = l.length * 2 := gC_len seK l
theorem sePl (l : List Se) : Plain (gC seC l) := gC_plain seP l
theorem num4_at : ∀ l : List UInt8, 4 ≤ l.length → num4 l = (l.getD 0 0).toNat * 16777216 + (l.getD 1 0).toNat * 65536 + (l.getD 2 0).toNat * 256 + (l.getD 3 0).toNat
  | a :: b :: c :: d :: r, _ => rfl
  | [], h | [_], h | [_, _], h | [_, _, _], h => by simp at h
theorem low4_at : ∀ l : List UInt8, 4 ≤ l.length → low4 l = ((l.getD 0 0).toNat % 128) * 16777216 + (l.getD 1 0).toNat * 65536 + (l.getD 2 0).toNat * 256 + (l.getD 3 0).toNat
  | a :: b :: c :: d :: r, _ => rfl
  | [], h | [_], h | [_, _], h | [_, _, _], h => by simp at h
theorem num4_lt : ∀ l : List UInt8, num4 l < 4294967296
  | a :: b :: c :: d :: r => by have k0 := u8_lt a; have k1 := u8_lt b; have k2 := u8_lt c; have k3 := u8_lt d; show a.toNat * 16777216 + b.toNat * 65536 + c.toNat * 256 + d.toNat < _; omega
  | [] | [_] | [_, _] | [_, _, _] => by show 0 < _; omega
theorem low4_eq : ∀ l : List UInt8, low4 l = num4 l % 2147483648
  | a :: b :: c :: d :: r => by
    have k0 := u8_lt a; have k1 := u8_lt b; have k2 := u8_lt c; have k3 := u8_lt d
    show a.toNat % 128 * 16777216 + b.toNat * 65536 + c.toNat * 256 + d.toNat = (a.toNat * 16777216 + b.toNat * 65536 + c.toNat * 256 + d.toNat) % 2147483648
    generalize a.toNat = a at *
    generalize b.toNat = b at *
    generalize c.toNat = c at *
    generalize d.toNat = d at *
    omega
  | [] | [_] | [_, _] | [_, _, _] => rfl
theorem getD_drop (l : List UInt8) (k j : Nat) : l.getD (k + j) 0 = (l.drop k).getD j 0 := by
  simp [List.getD]
theorem six : ∀ l : List UInt8, 6 ≤ l.length → ∃ a b c d e f r, l = a :: b :: c :: d :: e :: f :: r
  | a :: b :: c :: d :: e :: f :: r, _ => ⟨a, b, c, d, e, f, r, rfl⟩
  | [], h | [_], h | [_, _], h | [_, _, _], h | [_, _, _, _], h | [_, _, _, _, _], h => by simp at h
theorem or2 {a b : Nat} (k : Nat) (h : b < 2 ^ k) (ha : 2 ^ k * a + b < 9223372036854775808) : ior .i64 ((2 ^ k * a : Nat) : Int) (b : Int) = ((2 ^ k * a + b : Nat) : Int) := by
  rw [ior_nat (by omega) (by omega), or_add h]
theorem cat4 {a b c d : Nat} (ha : a < 256) (hb : b < 256) (hc : c < 256) (hd : d < 256) : ior .i64 (ior .i64 (ior .i64 (ishl .i64 (IntKind.i64.wrap (a : Int)) 24) (ishl .i64 (IntKind.i64.wrap (b : Int)) 16)) (ishl .i64 (IntKind.i64.wrap (c : Int)) 8)) (IntKind.i64.wrap (d : Int)) = ((a * 16777216 + b * 65536 + c * 256 + d : Nat) : Int) := by
  have w : ∀ x : Nat, x < 256 → IntKind.i64.wrap (x : Int) = (x : Int) := fun x hx => wr64_id (by unfold I64; omega)
  have s1 : ishl .i64 (a : Int) 24 = ((2 ^ 24 * a : Nat) : Int) := by have := ishl_nat (a := a) (k := 24) (by omega) (by omega); rw [Nat.mul_comm]; exact this
  have s2 : ishl .i64 (b : Int) 16 = ((b * 65536 : Nat) : Int) := ishl_nat (a := b) (k := 16) (by omega) (by omega)
  have s3 : ishl .i64 (c : Int) 8 = ((c * 256 : Nat) : Int) := ishl_nat (a := c) (k := 8) (by omega) (by omega)
  rw [w a ha, w b hb, w c hc, w d hd, s1, s2, s3, or2 24 (by omega) (by omega)]
  have e1 : 2 ^ 24 * a + b * 65536 = 2 ^ 16 * (a * 256 + b) := by omega
  rw [e1, or2 16 (by omega) (by omega)]
  have e2 : 2 ^ 16 * (a * 256 + b) + c * 256 = 2 ^ 8 * (a * 65536 + b * 256 + c) := by omega
  rw [e2, or2 8 (by omega) (by omega)]
  congr 1; omega
theorem cat2 {a b : Nat} (ha : a < 256) (hb : b < 256) : ior .i64 (ishl .i64 (IntKind.i64.wrap (a : Int)) 8) (IntKind.i64.wrap (b : Int)) = ((a * 256 + b : Nat) : Int) := by
  have w : ∀ x : Nat, x < 256 → IntKind.i64.wrap (x : Int) = (x : Int) := fun x hx => wr64_id (by unfold I64; omega)
  have s1 : ishl .i64 (a : Int) 8 = ((2 ^ 8 * a : Nat) : Int) := by have := ishl_nat (a := a) (k := 8) (by omega) (by omega); rw [Nat.mul_comm]; exact this
  rw [w a ha, w b hb, s1, or2 8 (by omega) (by omega)]
  congr 1; omega
theorem num_con (l : List UInt8) (h : 4 ≤ l.length) (hl : l.length ≤ maxLen) : Con Try.prog 44 [.slice (some ⟨0, 0, none⟩) l.length 1] [bRo l] (.int .i64 (num4 l : Nat)) [bRo l] := by
  refine con_vc (E := E0) mixed (calls_envN _) (lok_envN _) (M := noM) lm_none (num_vc l _ _) ?_
  simp only [ofNat_eq, toNat_cast, Nat.zero_add, Nat.add_zero, Nat.mul_one, List.drop_zero, bCells_len, bCells_drop, bCells_take, bCells_app, bCells_one, bCells_plain, List.length_replicate, List.length_append, List.length_take, List.length_drop, List.take_length, and_true, true_and, and_self, decide_true, List.length_nil, List.length_cons, Nat.sub_zero, dB_mk, dB_ro, List.take_zero]
  obtain ⟨a1, a2⟩ := bGet l 0 (by omega)
  obtain ⟨b1, b2⟩ := bGet l 1 (by omega)
  obtain ⟨c1, c2⟩ := bGet l 2 (by omega)
  obtain ⟨d1, d2⟩ := bGet l 3 (by omega)
  simp only [a1, a2, b1, b2, c1, c2, d1, d2, true_and]
  refine br_dec (by omega) (br_dec (by omega) (br_dec (by omega) (br_dec (by omega) ?_)))
  rw [cat4 (u8_lt _) (u8_lt _) (u8_lt _) (u8_lt _), num4_at l h]
theorem eNum_ok : EntOk Try.prog eNum := entC_ok (by
  intro a rows p v news h hp
  split at h <;> simp only [Option.some.injEq, Prod.mk.injEq, reduceCtorEq] at h
  obtain ⟨rfl, rfl, rfl⟩ := h
  obtain ⟨⟨l, rfl, rfl⟩, h1, h2⟩ := hp
  simp only [num4R, dB_ro, List.append_nil]
  exact num_con l h1 h2)
theorem tNum_ok : ∀ x ∈ tNum, EntOk Try.prog x := all_cons eNum_ok (all_nil)
theorem low_con (l : List UInt8) (h : 4 ≤ l.length) (hl : l.length ≤ maxLen) : Con Try.prog 42 [.slice (some ⟨0, 0, none⟩) l.length 1] [bRo l] (.int .i64 (low4 l : Nat)) [bRo l] := by
  refine con_vc (E := EtNum) mixed (calls_envT tNum_ok) (lok_envT _ _) (M := noM) lm_none (low_vc l _ _) ?_
  simp only [ofNat_eq, toNat_cast, Nat.zero_add, Nat.add_zero, Nat.mul_one, List.drop_zero, bCells_len, bCells_drop, bCells_take, bCells_app, bCells_one, bCells_plain, List.length_replicate, List.length_append, List.length_take, List.length_drop, List.take_length, and_true, true_and, and_self, decide_true, List.length_nil, List.length_cons, Nat.sub_zero, dB_mk, dB_ro, List.take_zero]
  refine ⟨⟨Nat.le_refl _, isB_mk _ _ rfl, h, by unfold maxLen at hl; omega⟩, ?_⟩
  have e : num4R ⟨bCells l, true, .cells true⟩ = (num4 l : Nat) := by unfold num4R; rw [dB_mk]
  have hb : num4 l < 4294967296 := num4_lt l
  rw [e]
  have := iand_nat (a := num4 l) (b := 2147483647) (by omega) (by omega)
  rw [show (2147483647 : Nat) = 2 ^ 31 - 1 from rfl, and_low, show (2 : Nat) ^ 31 = 2147483648 from rfl, ← low4_eq] at this
  exact this.symm
theorem val_con (i v : Int) : Con Try.prog 45 [.agg ⟨[.int .i64 i, .int .i64 v]⟩] [] (.int .i64 (valI i v)) [] := by
  refine con_vc (E := E0) mixed (calls_envN _) (lok_envN _) (M := noM) lm_none (val_vc ⟨i, v⟩ _) ?_
  simp only [br_iff]
  unfold valI
  grind
theorem eVal_ok : EntOk Try.prog eVal := entC_ok (by
  intro a rows p v news h hp
  split at h <;> simp only [Option.some.injEq, Prod.mk.injEq, reduceCtorEq] at h
  obtain ⟨rfl, rfl, rfl⟩ := h
  exact val_con _ _)
theorem tSet_ok : ∀ x ∈ tSet, EntOk Try.prog x := all_cons eNum_ok (all_cons eVal_ok (all_nil))
theorem Set_piece : PieceOk EtSet 2 (35, pSet, specSet) := by
  refine piece_loop mixed (calls_envT tSet_ok) (lok_envT _ _) lm_none (n := 60) (by kernel_rfl) (fun _ : GSet => (⟨0, []⟩ : StSet)) (fun g s => 6 * s.i ≤ g.l.length ∧ s.acc.length = s.i ∧ seErr (sets g.l) = seErr (sets (g.l.drop (6 * s.i))) ∧ seGood (sets g.l) = s.acc ++ seGood (sets (g.l.drop (6 * s.i)))) (fun g s => g.l.length - s.i) (sl := slSet) (rl := rlSet) (fun g hg => ⟨Nat.zero_le _, rfl, rfl, rfl⟩) (fun g s hg hi => ?_)
  refine (Set_round g s _ _).mpr ?_
  obtain ⟨i, acc⟩ := s
  obtain ⟨h1, h2, h3, h4⟩ := hi
  obtain ⟨g1, g2⟩ := hg
  simp only at h1 h2 h3 h4
  simp only [ofNat_eq, toNat_cast, Nat.zero_add, Nat.add_zero, Nat.mul_one, List.drop_zero, bCells_len, bCells_drop, bCells_take, bCells_app, bCells_one, bCells_plain, List.length_replicate, List.length_append, List.length_take, List.length_drop, List.take_length, and_true, true_and, and_self, decide_true, List.length_nil, List.length_cons, Nat.sub_zero, dB_mk, dB_ro, List.take_zero]
  refine br_if (fun h => ?_) (fun h => ⟨(), ?_⟩)
  rotate_left
  · have e0 : g.l.drop (6 * i) = [] := List.drop_eq_nil_of_le (by omega)
    rw [e0] at h3 h4
    have h4 : seGood (sets g.l) = acc := by rw [h4]; simp [sets, seGood]
    exact ⟨by rw [h3]; rfl, by rw [h4], by rw [h4], sePl _⟩
  have hlen : (g.l.drop (6 * i)).length = g.l.length - 6 * i := List.length_drop
  obtain ⟨a, b, c, d, e, f, r, hd⟩ := six (g.l.drop (6 * i)) (by omega)
  have hr : r.length + 6 = g.l.length - 6 * i := by rw [← hlen, hd]; simp
  obtain ⟨x1, x2⟩ := bGet g.l (6 * i) (by omega)
  obtain ⟨y1, y2⟩ := bGet g.l (6 * i + 1) (by omega)
  have ga : g.l.getD (6 * i) 0 = a := by have := getD_drop g.l (6 * i) 0; rw [Nat.add_zero] at this; rw [this, hd]; rfl
  have gb : g.l.getD (6 * i + 1) 0 = b := by rw [getD_drop g.l (6 * i) 1, hd]; rfl
  have d2 : g.l.drop (6 * i + 2) = c :: d :: e :: f :: r := by rw [← List.drop_drop, hd]; rfl
  have d6 : g.l.drop (6 * i + 6) = r := by rw [← List.drop_drop, hd]; rfl
  have tk : List.take (g.l.length - 6 * i - 2) (g.l.drop (6 * i + 2)) = c :: d :: e :: f :: r := by rw [d2]; exact List.take_of_length_le (by simp; omega)
  have nn : num4R ⟨bCells (c :: d :: e :: f :: r), true, .cells true⟩ = (num4 [c, d, e, f] : Nat) := by unfold num4R; rw [dB_mk]; rfl
  have hs : sets (g.l.drop (6 * i)) = ⟨(a.toNat * 256 + b.toNat : Nat), (num4 [c, d, e, f] : Nat)⟩ :: sets r := by rw [hd]; rfl
  have q0 : (bCells g.l)[6 * i]? = some (.int .u8 (a.toNat : Nat)) := by rw [x1, ga]
  rw [hs] at h3 h4
  simp only [x1, x2, y1, y2, ga, gb, tk, nn, true_and, cat2 (u8_lt a) (u8_lt b)]
  generalize hse : (⟨(a.toNat * 256 + b.toNat : Nat), (num4 [c, d, e, f] : Nat)⟩ : Se) = se at h3 h4
  have e1 : ((a.toNat * 256 + b.toNat : Nat) : Int) = se.i := by rw [← hse]
  have e2 : ((num4 [c, d, e, f] : Nat) : Int) = se.v := by rw [← hse]
  simp only [e1, e2]
  refine br_dec (by omega) (br_dec (by omega) (br_dec (by omega) ⟨⟨by omega, isB_mk _ _ (by simp; omega), by omega, by omega⟩, br_dec (by omega) (br_intro (fun k => ?_) (fun k => ?_))⟩))
  · have k : ¬ valI se.i se.v = 0 := by simpa using k
    simp only [seErr, seGood, if_neg k, List.append_nil] at h3 h4
    exact ⟨(), by rw [h3]; exact k, by rw [h4], h3, by rw [h4], sePl _⟩
  · have k : valI se.i se.v = 0 := by simpa using k
    simp only [seErr, seGood, if_pos k] at h3 h4
    have e6 : 6 * (i + 1) = 6 * i + 6 := by omega
    have one : [Value.int .i64 se.i, Value.int .i64 se.v] = gC seC [se] := rfl
    have tke : List.take (acc.length * 2) (gC seC acc) = gC seC acc := List.take_of_length_le (by rw [seL]; omega)
    refine br_dec (by omega) (br_dec (by rw [seL]; omega) (br_dec (by omega) ⟨⟨i + 1, acc ++ [se]⟩, ⟨by simp only; omega, by simp; omega, by simp only; rw [e6, d6]; exact h3, by simp only; rw [e6, d6, h4]; simp⟩, by simp only; omega, e6, by simp only; omega, by simp, ?_, sePl _⟩))
    simp only [one, tke, gC_app]
theorem Set_con (y : PtY) (ty fl st : Int) (l : List UInt8) (hl : l.length ≤ 16777216) : ConM Try.prog 35 [.pointer (some ⟨0, 0, none⟩), .agg ⟨frCy ty fl st 1 l.length⟩] [⟨ptC0 y, false, .cells false⟩, bRo l] (.agg ⟨[.int .i64 (stSc fl l), .int .i64 (stCd fl l), .int .i64 0]⟩) 3 [(0, ⟨ptC1 ⟨y.ty, y.st, y.e, y.f, bit fl 1, y.co, y.la, y.mo, y.cs⟩ 2 (stSe fl l).length, false, .cells false⟩), (2, gOwn seC (stSe fl l))] := by
  refine conM_vc (E := EtSet) mixed (calls_envT tSet_ok) (lok_envT _ _) (M := mSet) (lm_one Set_piece) (Set_vc y _ ty fl st _ _ l _) ?_
  simp only [ofNat_eq, toNat_cast, Nat.zero_add, Nat.add_zero, Nat.mul_one, List.drop_zero, bCells_len, bCells_drop, bCells_take, bCells_app, bCells_one, bCells_plain, List.length_replicate, List.length_append, List.length_take, List.length_drop, List.take_length, and_true, true_and, and_self, decide_true, List.length_nil, List.length_cons, Nat.sub_zero, dB_mk, dB_ro, List.take_zero]
  have hfin : ∀ (_ : ¬ stBad fl l = true) (_ : l.length % 6 = 0), ∃ g : GSet,
          (g.l.length % 6 = 0 ∧ g.l.length ≤ 16777216) ∧ g.l.length = l.length ∧ g.y.ty = y.ty ∧ g.y.st = y.st ∧ g.y.e = y.e ∧ g.y.f = y.f ∧ g.y.a = (iand IntKind.i64 fl 1 != 0) ∧ g.y.co = y.co ∧ g.y.la = y.la ∧ g.y.mo = y.mo ∧ g.y.cs = y.cs ∧ bCells g.l = bCells l ∧
            ∀ (side : Bool), br side
              (∀ (y2 : Unit), seErr (sets g.l) = 0 → stSc fl l = 0 ∧ stCd fl l = 0 ∧ y.ty = g.y.ty ∧ y.st = g.y.st ∧ y.e = g.y.e ∧ y.f = g.y.f ∧ bit fl 1 = g.y.a ∧ y.co = g.y.co ∧ y.la = g.y.la ∧ y.mo = g.y.mo ∧ y.cs = g.y.cs ∧ (stSe fl l).length = (seGood (sets g.l)).length ∧ gC seC (stSe fl l) = gC seC (seGood (sets g.l)) ∧ Plain (gC seC (stSe fl l)))
              (∀ (y2 : Unit), seErr (sets g.l) ≠ 0 → stSc fl l = 2 ∧ stCd fl l = seErr (sets g.l) ∧ y.ty = g.y.ty ∧ y.st = g.y.st ∧ y.e = g.y.e ∧ y.f = g.y.f ∧ bit fl 1 = g.y.a ∧ y.co = g.y.co ∧ y.la = g.y.la ∧ y.mo = g.y.mo ∧ y.cs = g.y.cs ∧ (stSe fl l).length = (seGood (sets g.l)).length ∧ gC seC (stSe fl l) = gC seC (seGood (sets g.l)) ∧ Plain (gC seC (stSe fl l))) := by
    intro hb h6
    have es : stSe fl l = seGood (sets l) := by unfold stSe; rw [if_neg hb]
    have ec : stCd fl l = seErr (sets l) := by unfold stCd; rw [if_neg hb]
    have esc : stSc fl l = if seErr (sets l) = 0 then 0 else 2 := by unfold stSc; rw [if_neg hb]
    refine ⟨⟨l, ⟨y.ty, y.st, y.e, y.f, bit fl 1, y.co, y.la, y.mo, y.cs⟩⟩, ⟨h6, hl⟩, rfl, rfl, rfl, rfl, rfl, rfl, rfl, rfl, rfl, rfl, rfl, br_side (fun _ k => ?_) (fun _ k => ?_)⟩
    · simp only at k
      exact ⟨by rw [esc, if_pos k], by rw [ec, k], rfl, rfl, rfl, rfl, rfl, rfl, rfl, rfl, rfl, by rw [es], by rw [es], sePl _⟩
    · simp only at k
      exact ⟨by rw [esc, if_neg k], ec, rfl, rfl, rfl, rfl, rfl, rfl, rfl, rfl, rfl, by rw [es], by rw [es], sePl _⟩
  have m6 : ((l.length : Int).tmod 6 != 0) = decide (l.length % 6 ≠ 0) := by
    have : (l.length : Int).tmod 6 = ((l.length % 6 : Nat) : Int) := rfl
    rw [this, Bool.eq_iff_iff]; simp; omega
  rw [m6]
  have hbad : stBad fl l = (decide (l.length % 6 ≠ 0) || ((iand .i64 fl 1 != 0) && decide (0 < l.length))) := rfl
  have hB : stBad fl l = true → stSc fl l = 2 ∧ stCd fl l = 6 ∧ bit fl 1 = (iand IntKind.i64 fl 1 != 0) ∧ (stSe fl l).length = 0 ∧ gC seC (stSe fl l) = [] := fun hb => ⟨by unfold stSc; rw [if_pos hb], by unfold stCd; rw [if_pos hb], rfl, by unfold stSe; rw [if_pos hb]; rfl, by unfold stSe; rw [if_pos hb]; rfl⟩
  refine br_if (fun h => hB (by rw [hbad, decide_eq_true h]; rfl)) (fun h => br_intro (fun h2 => br_if (fun h3 => hB (by rw [hbad, h2, decide_eq_true (show 0 < l.length by omega)]; simp)) (fun h3 => hfin (by rw [hbad, decide_eq_false (show ¬ 0 < l.length by omega)]; simp; omega) (by omega))) (fun h2 => hfin (by rw [hbad, h2]; simp; omega) (by omega)))
end Go.Proofs.Ytagahikocoggcaa.sh
