/- The law: any frame, what it says, or which error it is; it stays. -/
import Derived.Test.YtagahikocoggcaaSz9
import Derived.Test.YtagahikocoggcaaRows
import Derived.Test.YtagahikocoggcaaLshU
import Derived.Test.YtagahikocoggcaaLshF
import Derived.Test.YtagahikocoggcaaLbook
set_option maxRecDepth 20000
set_option linter.unusedSimpArgs false
set_option linter.unusedVariables false
namespace Go.Proofs.Ytagahikocoggcaa.sh
open Go Go.Ev Go.Sy Go.RowKit Go.Proofs.Ytagahikocoggcaa.gl
def u8i (m : Int) : UInt8 := UInt8.ofNat m.toNat
def IsU8 (m : Int) : Prop := ∃ b : UInt8, m = b.toNat
def pad80 (l : List UInt8) (m : UInt8) : List UInt8 := l ++ List.replicate 80 m
def padC (r : Row) (m : Int) : List Value := bCells (pad80 (dB r) (u8i m))
def inI (r0 r1 : Row) (k : Int) : Bool := decide (dB r0 = pad80 (dB r1) (u8i k))
noncomputable def eRsh : EntM := entC 15 fun a r => match a, r with
  | [.agg ⟨[.int .i64 ty, .int .i64 fl, .int .i64 st, .slice (some ⟨0, 0, none⟩) n 1]⟩], [r0] => some (IsB r0 n ∧ n ≤ 16777216, .tuple #[.agg ⟨[.int .i64 (oTy ty fl st r0), .int .i64 (oSt ty fl st r0), .bool (oE ty fl st r0), .bool (oF ty fl st r0), .bool (oA ty fl st r0), .slice (some ⟨1, 0, none⟩) (oBn ty fl st r0) 1, .int .i64 (oCo ty fl st r0), .int .i64 (oLa ty fl st r0), .int .i64 (oMo ty fl st r0), .int .i64 (oCs ty fl st r0), .slice (some ⟨2, 0, none⟩) (oSn ty fl st r0) 2]⟩, .agg ⟨[.int .i64 (oXs ty fl st r0), .int .i64 (oXc ty fl st r0), .int .i64 (oXn ty fl st r0)]⟩], [⟨oBc ty fl st r0, false, .cells true⟩, ⟨oSc ty fl st r0, false, .cells true⟩])
  | _, _ => none
noncomputable def eRoo : EntM := entC 14 fun a r => match a, r with
  | [.slice (some ⟨0, 0, none⟩) n 1, .int .u8 m], [r0] => some (IsB r0 n ∧ IsU8 m ∧ n ≤ 16777136, slc 1 (n + 80), [⟨padC r0 m, false, .cells true⟩])
  | _, _ => none
noncomputable def eIntB : EntM := entC 16 fun a r => match a, r with
  | [.slice (some ⟨0, 0, none⟩) n 1, .slice (some ⟨1, 0, none⟩) m 1, .int .u8 k], [r0, r1] => some (IsB r0 n ∧ IsB r1 m ∧ IsU8 k ∧ n ≤ maxLen ∧ m ≤ 9223372036854775000, .bool (inI r0 r1 k), [])
  | _, _ => none
noncomputable def eRunsT : EntM := entC 3 fun a r => match a, r with
  | [], [] => some (True, .bool true, [])
  | _, _ => none
noncomputable def tSt : List EntM := [eOf, eRsh, ePa, eRoo, eIntB, eRunsT]
noncomputable abbrev EtSt : Env := envT Try.prog tSt
def pXr : List Nat := [0, 1, 0, 1, 1, 1, 1, 1, 1, 1, 1]
structure GXr where
  l : List UInt8
  n : Nat
  ty : Int
  fl : Int
  st : Int
  f : List UInt8
  y : PtY
  b : List Int
  s : List Se
structure StXr where
  i : Nat
  c : List Int
def iC (c : List Int) : List Value := c.map (Value.int .u8)
def slXr0 (g : GXr) : List (Nat × Value) := [(1, .pointer (some ⟨1, 0, none⟩)), (3, .slice (some ⟨2, 0, none⟩) g.f.length 1)]
def slXr (g : GXr) (s : StXr) : List (Nat × Value) := slXr0 g ++ [(5, .pointer (some ⟨3, 0, none⟩)), (9, .int .i64 (s.i : Nat))]
def rlXr0 (g : GXr) : List (Nat × Row) := [(0, bRo g.l), (1, ⟨frCy g.ty g.fl g.st 0 g.n, false, .cells false⟩), (2, bOwn g.f)]
def rlXr (g : GXr) (s : StXr) : List (Nat × Row) := rlXr0 g ++ [(3, ⟨ptCy g.y 4 g.b.length 5 g.s.length, false, .cells false⟩), (4, ⟨iC s.c, false, .cells true⟩), (5, gOwn seC g.s)]
def wsXr (g : GXr) : List (Gate Unit) := [⟨.exit 0, fun _ => True, fun _ => slXr0 g, fun _ => rlXr0 g, 6⟩]
def specXr : Sy.Spec := specOf 1 6 62 (fun g : GXr => g.b.length ≤ 16777216) (fun g => slXr g ⟨0, g.b⟩) (fun g => rlXr g ⟨0, g.b⟩) wsXr
def mXr := mOf [(4, pXr, specXr)]
theorem Xr_round (g : GXr) (s : StXr) (Inv : StXr → Prop) (m : StXr → Nat) : mev EtSt noM 60 4 (0 :: pXr) false (codeOf Try.prog 4 (0 :: pXr)) ⟨mkOv (slXr g s), 62, []⟩ none ⟨mkR (rlXr g s), 6⟩ (roundK 1 6 62 Inv m (slXr g) (rlXr g) (wsXr g) s) =
  (br (decide ((↑s.1 : Int) < Int.ofNat (List.length g.8)))
   (br (decide ((0 : Int) ≤ (↑s.1 : Int) ∧ (↑s.1 : Int) < (↑(List.length g.8) : Int)))
    ((Eq (α := Option Value) ((iC s.2)[(0 : Nat) + Int.toNat (↑s.1 : Int) * (1 : Nat)]?) (some (Value.int IntKind.u8 (cellI (iC s.2) ((0 : Nat) + Int.toNat (↑s.1 : Int) * (1 : Nat)))))) ∧
    (br (decide ((0 : Int) ≤ (↑s.1 : Int) ∧ (↑s.1 : Int) < (↑(List.length g.8) : Int)))
     (br (decide ((0 : Nat) + Int.toNat (↑s.1 : Int) * (1 : Nat) + (1 : Nat) ≤ List.length (iC s.2)))
      (∃ j : StXr, ((Inv j) ∧
      ((m j < m s) ∧
      (((0 : Nat) = (0 : Nat)) ∧
      (((0 : Nat) = (0 : Nat)) ∧
      ((List.length g.6 = List.length g.6) ∧
      (((0 : Nat) = (0 : Nat)) ∧
      (((↑j.1 : Int) = IntKind.wrap IntKind.i64 ((↑s.1 : Int) + (1 : Int))) ∧
      ((Eq (α := List Value) (bCells g.1) (bCells g.1)) ∧
      ((Plain (bCells g.1)) ∧
      ((g.3 = g.3) ∧
      ((g.4 = g.4) ∧
      ((g.5 = g.5) ∧
      (((0 : Nat) = (0 : Nat)) ∧
      ((g.2 = g.2) ∧
      ((Eq (α := List Value) (bCells g.6) (bCells g.6)) ∧
      ((Plain (bCells g.6)) ∧
      ((g.7.1 = g.7.1) ∧
      ((g.7.2 = g.7.2) ∧
      ((g.7.3 = g.7.3) ∧
      ((g.7.4 = g.7.4) ∧
      ((g.7.5 = g.7.5) ∧
      (((0 : Nat) = (0 : Nat)) ∧
      ((List.length g.8 = List.length g.8) ∧
      ((g.7.6 = g.7.6) ∧
      ((g.7.7 = g.7.7) ∧
      ((g.7.8 = g.7.8) ∧
      ((g.7.9 = g.7.9) ∧
      (((0 : Nat) = (0 : Nat)) ∧
      ((List.length g.9 = List.length g.9) ∧
      ((Eq (α := List Value) (iC j.2) (ovr (iC s.2) ((0 : Nat) + Int.toNat (↑s.1 : Int) * (1 : Nat)) [Value.int IntKind.u8 (ixor IntKind.u8 (cellI (iC s.2) ((0 : Nat) + Int.toNat (↑s.1 : Int) * (1 : Nat))) (255 : Int))])) ∧
      ((Plain (iC j.2)) ∧
      ((Eq (α := List Value) (gC seC g.9) (gC seC g.9)) ∧
      ((Plain (gC seC g.9)) ∧
      True))))))))))))))))))))))))))))))))))
      False)
     False))
    False)
   (∃ y : Unit, ((True) ∧
   (((0 : Nat) = (0 : Nat)) ∧
   (((0 : Nat) = (0 : Nat)) ∧
   ((List.length g.6 = List.length g.6) ∧
   ((Eq (α := List Value) (bCells g.1) (bCells g.1)) ∧
   ((Plain (bCells g.1)) ∧
   ((g.3 = g.3) ∧
   ((g.4 = g.4) ∧
   ((g.5 = g.5) ∧
   (((0 : Nat) = (0 : Nat)) ∧
   ((g.2 = g.2) ∧
   ((Eq (α := List Value) (bCells g.6) (bCells g.6)) ∧
   ((Plain (bCells g.6)) ∧
   True))))))))))))))) := by kernel_rfl
theorem St_vc (ty fl st : Int) (l : List UInt8) : mcall EtSt mXr 60 4 [.agg ⟨frCy ty fl st 0 l.length⟩] ⟨mkR (nums 0 [bRo l]), 1⟩ (retIs 1 (.bool true) [bRo l]) =
  (br (decide (Int.ofNat (List.length l) > (300 : Int)))
   (br (decide ((0 : Int) ≤ (↑(0 : Nat) : Int) ∧ (↑(0 : Nat) : Int) ≤ (300 : Int) ∧ (300 : Int) ≤ (↑(List.length l) : Int)))
    ((((((300 : Nat) ≤ List.length (bCells l) ∧ Plain (List.take (300 : Nat) (List.drop (0 : Nat) (bCells l)))) ∧ (True ∧ True)) ∧ ((True ∧ True) ∧ ((Plain (padC (Row.mk (List.take (300 : Nat) (List.drop (0 : Nat) (bCells l))) true (Ob.cells true)) (6 : Int)) ∧ True) ∧ (IsB (Row.mk (List.take (300 : Nat) (List.drop (0 : Nat) (bCells l))) true (Ob.cells true)) (300 : Nat) ∧ (IsU8 (6 : Int) ∧ Int.toNat (300 : Int) - Int.toNat (↑(0 : Nat) : Int) ≤ (16777136 : Nat))))))) ∧
    (((((True ∧ (True ∧ (True ∧ (((300 : Nat) ≤ List.length (padC (Row.mk (List.take (300 : Nat) (List.drop (0 : Nat) (bCells l))) true (Ob.cells true)) (6 : Int)) ∧ Plain (List.take (300 : Nat) (List.drop (0 : Nat) (padC (Row.mk (List.take (300 : Nat) (List.drop (0 : Nat) (bCells l))) true (Ob.cells true)) (6 : Int))))) ∧ True)))) ∧ True) ∧ ((True ∧ True) ∧ ((Plain (oBc ty fl st (Row.mk (List.take (300 : Nat) (List.drop (0 : Nat) (padC (Row.mk (List.take (300 : Nat) (List.drop (0 : Nat) (bCells l))) true (Ob.cells true)) (6 : Int)))) true (Ob.cells true))) ∧ (Plain (oSc ty fl st (Row.mk (List.take (300 : Nat) (List.drop (0 : Nat) (padC (Row.mk (List.take (300 : Nat) (List.drop (0 : Nat) (bCells l))) true (Ob.cells true)) (6 : Int)))) true (Ob.cells true))) ∧ True)) ∧ (IsB (Row.mk (List.take (300 : Nat) (List.drop (0 : Nat) (padC (Row.mk (List.take (300 : Nat) (List.drop (0 : Nat) (bCells l))) true (Ob.cells true)) (6 : Int)))) true (Ob.cells true)) (300 : Nat) ∧ Int.toNat (Int.ofNat (Int.toNat (300 : Int) - Int.toNat (↑(0 : Nat) : Int))) - Int.toNat (↑(0 : Nat) : Int) ≤ (16777216 : Nat)))))) ∧
    (((((True ∧ (True ∧ (True ∧ (((300 : Nat) ≤ List.length (bCells l) ∧ Plain (List.take (300 : Nat) (List.drop (0 : Nat) (bCells l)))) ∧ True)))) ∧ True) ∧ ((True ∧ True) ∧ ((Plain (oBc ty fl st (Row.mk (List.take (300 : Nat) (List.drop (0 : Nat) (bCells l))) true (Ob.cells true))) ∧ (Plain (oSc ty fl st (Row.mk (List.take (300 : Nat) (List.drop (0 : Nat) (bCells l))) true (Ob.cells true))) ∧ True)) ∧ (IsB (Row.mk (List.take (300 : Nat) (List.drop (0 : Nat) (bCells l))) true (Ob.cells true)) (300 : Nat) ∧ Int.toNat (300 : Int) - Int.toNat (↑(0 : Nat) : Int) ≤ (16777216 : Nat)))))) ∧
    (br (!(oXs ty fl st (Row.mk (List.take (300 : Nat) (List.drop (0 : Nat) (padC (Row.mk (List.take (300 : Nat) (List.drop (0 : Nat) (bCells l))) true (Ob.cells true)) (6 : Int)))) true (Ob.cells true)) == oXs ty fl st (Row.mk (List.take (300 : Nat) (List.drop (0 : Nat) (bCells l))) true (Ob.cells true)) && (oXc ty fl st (Row.mk (List.take (300 : Nat) (List.drop (0 : Nat) (padC (Row.mk (List.take (300 : Nat) (List.drop (0 : Nat) (bCells l))) true (Ob.cells true)) (6 : Int)))) true (Ob.cells true)) == oXc ty fl st (Row.mk (List.take (300 : Nat) (List.drop (0 : Nat) (bCells l))) true (Ob.cells true)) && (oXn ty fl st (Row.mk (List.take (300 : Nat) (List.drop (0 : Nat) (padC (Row.mk (List.take (300 : Nat) (List.drop (0 : Nat) (bCells l))) true (Ob.cells true)) (6 : Int)))) true (Ob.cells true)) == oXn ty fl st (Row.mk (List.take (300 : Nat) (List.drop (0 : Nat) (bCells l))) true (Ob.cells true)) && true))))
     ((true = false) ∧
     ((Eq (α := List Value) (bCells l) (bCells l)) ∧
     ((Plain (bCells l)) ∧
     True)))
     (((((True ∧ (True ∧ (True ∧ (True ∧ (True ∧ (((0 : Nat) + oBn ty fl st (Row.mk (List.take (300 : Nat) (List.drop (0 : Nat) (padC (Row.mk (List.take (300 : Nat) (List.drop (0 : Nat) (bCells l))) true (Ob.cells true)) (6 : Int)))) true (Ob.cells true)) * (1 : Nat) ≤ List.length (oBc ty fl st (Row.mk (List.take (300 : Nat) (List.drop (0 : Nat) (padC (Row.mk (List.take (300 : Nat) (List.drop (0 : Nat) (bCells l))) true (Ob.cells true)) (6 : Int)))) true (Ob.cells true))) ∧ Plain (List.take (oBn ty fl st (Row.mk (List.take (300 : Nat) (List.drop (0 : Nat) (padC (Row.mk (List.take (300 : Nat) (List.drop (0 : Nat) (bCells l))) true (Ob.cells true)) (6 : Int)))) true (Ob.cells true)) * (1 : Nat)) (List.drop (0 : Nat) (oBc ty fl st (Row.mk (List.take (300 : Nat) (List.drop (0 : Nat) (padC (Row.mk (List.take (300 : Nat) (List.drop (0 : Nat) (bCells l))) true (Ob.cells true)) (6 : Int)))) true (Ob.cells true)))))) ∧ (True ∧ (True ∧ (True ∧ (True ∧ (((0 : Nat) + oSn ty fl st (Row.mk (List.take (300 : Nat) (List.drop (0 : Nat) (padC (Row.mk (List.take (300 : Nat) (List.drop (0 : Nat) (bCells l))) true (Ob.cells true)) (6 : Int)))) true (Ob.cells true)) * (2 : Nat) ≤ List.length (oSc ty fl st (Row.mk (List.take (300 : Nat) (List.drop (0 : Nat) (padC (Row.mk (List.take (300 : Nat) (List.drop (0 : Nat) (bCells l))) true (Ob.cells true)) (6 : Int)))) true (Ob.cells true))) ∧ Plain (List.take (oSn ty fl st (Row.mk (List.take (300 : Nat) (List.drop (0 : Nat) (padC (Row.mk (List.take (300 : Nat) (List.drop (0 : Nat) (bCells l))) true (Ob.cells true)) (6 : Int)))) true (Ob.cells true)) * (2 : Nat)) (List.drop (0 : Nat) (oSc ty fl st (Row.mk (List.take (300 : Nat) (List.drop (0 : Nat) (padC (Row.mk (List.take (300 : Nat) (List.drop (0 : Nat) (bCells l))) true (Ob.cells true)) (6 : Int)))) true (Ob.cells true)))))) ∧ True))))))))))) ∧ ((True ∧ (True ∧ (True ∧ (True ∧ (True ∧ (((0 : Nat) + oBn ty fl st (Row.mk (List.take (300 : Nat) (List.drop (0 : Nat) (bCells l))) true (Ob.cells true)) * (1 : Nat) ≤ List.length (oBc ty fl st (Row.mk (List.take (300 : Nat) (List.drop (0 : Nat) (bCells l))) true (Ob.cells true))) ∧ Plain (List.take (oBn ty fl st (Row.mk (List.take (300 : Nat) (List.drop (0 : Nat) (bCells l))) true (Ob.cells true)) * (1 : Nat)) (List.drop (0 : Nat) (oBc ty fl st (Row.mk (List.take (300 : Nat) (List.drop (0 : Nat) (bCells l))) true (Ob.cells true)))))) ∧ (True ∧ (True ∧ (True ∧ (True ∧ (((0 : Nat) + oSn ty fl st (Row.mk (List.take (300 : Nat) (List.drop (0 : Nat) (bCells l))) true (Ob.cells true)) * (2 : Nat) ≤ List.length (oSc ty fl st (Row.mk (List.take (300 : Nat) (List.drop (0 : Nat) (bCells l))) true (Ob.cells true))) ∧ Plain (List.take (oSn ty fl st (Row.mk (List.take (300 : Nat) (List.drop (0 : Nat) (bCells l))) true (Ob.cells true)) * (2 : Nat)) (List.drop (0 : Nat) (oSc ty fl st (Row.mk (List.take (300 : Nat) (List.drop (0 : Nat) (bCells l))) true (Ob.cells true)))))) ∧ True))))))))))) ∧ True)) ∧ ((True ∧ (True ∧ (True ∧ (True ∧ True)))) ∧ (True ∧ (IsB (Row.mk (List.take (oBn ty fl st (Row.mk (List.take (300 : Nat) (List.drop (0 : Nat) (padC (Row.mk (List.take (300 : Nat) (List.drop (0 : Nat) (bCells l))) true (Ob.cells true)) (6 : Int)))) true (Ob.cells true)) * (1 : Nat)) (List.drop (0 : Nat) (oBc ty fl st (Row.mk (List.take (300 : Nat) (List.drop (0 : Nat) (padC (Row.mk (List.take (300 : Nat) (List.drop (0 : Nat) (bCells l))) true (Ob.cells true)) (6 : Int)))) true (Ob.cells true))))) true (Ob.cells true)) (oBn ty fl st (Row.mk (List.take (300 : Nat) (List.drop (0 : Nat) (padC (Row.mk (List.take (300 : Nat) (List.drop (0 : Nat) (bCells l))) true (Ob.cells true)) (6 : Int)))) true (Ob.cells true))) ∧ (IsB (Row.mk (List.take (oBn ty fl st (Row.mk (List.take (300 : Nat) (List.drop (0 : Nat) (bCells l))) true (Ob.cells true)) * (1 : Nat)) (List.drop (0 : Nat) (oBc ty fl st (Row.mk (List.take (300 : Nat) (List.drop (0 : Nat) (bCells l))) true (Ob.cells true))))) true (Ob.cells true)) (oBn ty fl st (Row.mk (List.take (300 : Nat) (List.drop (0 : Nat) (bCells l))) true (Ob.cells true))) ∧ (IsSe (Row.mk (List.take (oSn ty fl st (Row.mk (List.take (300 : Nat) (List.drop (0 : Nat) (padC (Row.mk (List.take (300 : Nat) (List.drop (0 : Nat) (bCells l))) true (Ob.cells true)) (6 : Int)))) true (Ob.cells true)) * (2 : Nat)) (List.drop (0 : Nat) (oSc ty fl st (Row.mk (List.take (300 : Nat) (List.drop (0 : Nat) (padC (Row.mk (List.take (300 : Nat) (List.drop (0 : Nat) (bCells l))) true (Ob.cells true)) (6 : Int)))) true (Ob.cells true))))) true (Ob.cells true)) (oSn ty fl st (Row.mk (List.take (300 : Nat) (List.drop (0 : Nat) (padC (Row.mk (List.take (300 : Nat) (List.drop (0 : Nat) (bCells l))) true (Ob.cells true)) (6 : Int)))) true (Ob.cells true))) ∧ (IsSe (Row.mk (List.take (oSn ty fl st (Row.mk (List.take (300 : Nat) (List.drop (0 : Nat) (bCells l))) true (Ob.cells true)) * (2 : Nat)) (List.drop (0 : Nat) (oSc ty fl st (Row.mk (List.take (300 : Nat) (List.drop (0 : Nat) (bCells l))) true (Ob.cells true))))) true (Ob.cells true)) (oSn ty fl st (Row.mk (List.take (300 : Nat) (List.drop (0 : Nat) (bCells l))) true (Ob.cells true))) ∧ (oBn ty fl st (Row.mk (List.take (300 : Nat) (List.drop (0 : Nat) (padC (Row.mk (List.take (300 : Nat) (List.drop (0 : Nat) (bCells l))) true (Ob.cells true)) (6 : Int)))) true (Ob.cells true)) ≤ (9223372036854775807 : Nat) ∧ (oSn ty fl st (Row.mk (List.take (300 : Nat) (List.drop (0 : Nat) (padC (Row.mk (List.take (300 : Nat) (List.drop (0 : Nat) (bCells l))) true (Ob.cells true)) (6 : Int)))) true (Ob.cells true)) ≤ (9223372036854775807 : Nat) ∧ (Eq (α := List Value) (List.take (oBn ty fl st (Row.mk (List.take (300 : Nat) (List.drop (0 : Nat) (padC (Row.mk (List.take (300 : Nat) (List.drop (0 : Nat) (bCells l))) true (Ob.cells true)) (6 : Int)))) true (Ob.cells true)) * (1 : Nat)) (List.drop (0 : Nat) (oBc ty fl st (Row.mk (List.take (300 : Nat) (List.drop (0 : Nat) (padC (Row.mk (List.take (300 : Nat) (List.drop (0 : Nat) (bCells l))) true (Ob.cells true)) (6 : Int)))) true (Ob.cells true))))) (List.take (oBn ty fl st (Row.mk (List.take (300 : Nat) (List.drop (0 : Nat) (bCells l))) true (Ob.cells true)) * (1 : Nat)) (List.drop (0 : Nat) (oBc ty fl st (Row.mk (List.take (300 : Nat) (List.drop (0 : Nat) (bCells l))) true (Ob.cells true))))) ∧ (Eq (α := List Value) (List.take (oSn ty fl st (Row.mk (List.take (300 : Nat) (List.drop (0 : Nat) (padC (Row.mk (List.take (300 : Nat) (List.drop (0 : Nat) (bCells l))) true (Ob.cells true)) (6 : Int)))) true (Ob.cells true)) * (2 : Nat)) (List.drop (0 : Nat) (oSc ty fl st (Row.mk (List.take (300 : Nat) (List.drop (0 : Nat) (padC (Row.mk (List.take (300 : Nat) (List.drop (0 : Nat) (bCells l))) true (Ob.cells true)) (6 : Int)))) true (Ob.cells true))))) (List.take (oSn ty fl st (Row.mk (List.take (300 : Nat) (List.drop (0 : Nat) (bCells l))) true (Ob.cells true)) * (2 : Nat)) (List.drop (0 : Nat) (oSc ty fl st (Row.mk (List.take (300 : Nat) (List.drop (0 : Nat) (bCells l))) true (Ob.cells true))))) ∧ (oTy ty fl st (Row.mk (List.take (300 : Nat) (List.drop (0 : Nat) (padC (Row.mk (List.take (300 : Nat) (List.drop (0 : Nat) (bCells l))) true (Ob.cells true)) (6 : Int)))) true (Ob.cells true)) = oTy ty fl st (Row.mk (List.take (300 : Nat) (List.drop (0 : Nat) (bCells l))) true (Ob.cells true)) ∧ (oSt ty fl st (Row.mk (List.take (300 : Nat) (List.drop (0 : Nat) (padC (Row.mk (List.take (300 : Nat) (List.drop (0 : Nat) (bCells l))) true (Ob.cells true)) (6 : Int)))) true (Ob.cells true)) = oSt ty fl st (Row.mk (List.take (300 : Nat) (List.drop (0 : Nat) (bCells l))) true (Ob.cells true)) ∧ (oE ty fl st (Row.mk (List.take (300 : Nat) (List.drop (0 : Nat) (padC (Row.mk (List.take (300 : Nat) (List.drop (0 : Nat) (bCells l))) true (Ob.cells true)) (6 : Int)))) true (Ob.cells true)) = oE ty fl st (Row.mk (List.take (300 : Nat) (List.drop (0 : Nat) (bCells l))) true (Ob.cells true)) ∧ (oF ty fl st (Row.mk (List.take (300 : Nat) (List.drop (0 : Nat) (padC (Row.mk (List.take (300 : Nat) (List.drop (0 : Nat) (bCells l))) true (Ob.cells true)) (6 : Int)))) true (Ob.cells true)) = oF ty fl st (Row.mk (List.take (300 : Nat) (List.drop (0 : Nat) (bCells l))) true (Ob.cells true)) ∧ (oA ty fl st (Row.mk (List.take (300 : Nat) (List.drop (0 : Nat) (padC (Row.mk (List.take (300 : Nat) (List.drop (0 : Nat) (bCells l))) true (Ob.cells true)) (6 : Int)))) true (Ob.cells true)) = oA ty fl st (Row.mk (List.take (300 : Nat) (List.drop (0 : Nat) (bCells l))) true (Ob.cells true)) ∧ (oCo ty fl st (Row.mk (List.take (300 : Nat) (List.drop (0 : Nat) (padC (Row.mk (List.take (300 : Nat) (List.drop (0 : Nat) (bCells l))) true (Ob.cells true)) (6 : Int)))) true (Ob.cells true)) = oCo ty fl st (Row.mk (List.take (300 : Nat) (List.drop (0 : Nat) (bCells l))) true (Ob.cells true)) ∧ (oLa ty fl st (Row.mk (List.take (300 : Nat) (List.drop (0 : Nat) (padC (Row.mk (List.take (300 : Nat) (List.drop (0 : Nat) (bCells l))) true (Ob.cells true)) (6 : Int)))) true (Ob.cells true)) = oLa ty fl st (Row.mk (List.take (300 : Nat) (List.drop (0 : Nat) (bCells l))) true (Ob.cells true)) ∧ (oMo ty fl st (Row.mk (List.take (300 : Nat) (List.drop (0 : Nat) (padC (Row.mk (List.take (300 : Nat) (List.drop (0 : Nat) (bCells l))) true (Ob.cells true)) (6 : Int)))) true (Ob.cells true)) = oMo ty fl st (Row.mk (List.take (300 : Nat) (List.drop (0 : Nat) (bCells l))) true (Ob.cells true)) ∧ oCs ty fl st (Row.mk (List.take (300 : Nat) (List.drop (0 : Nat) (padC (Row.mk (List.take (300 : Nat) (List.drop (0 : Nat) (bCells l))) true (Ob.cells true)) (6 : Int)))) true (Ob.cells true)) = oCs ty fl st (Row.mk (List.take (300 : Nat) (List.drop (0 : Nat) (bCells l))) true (Ob.cells true)))))))))))))))))))))) ∧
     (∃ g : GXr, ((List.length g.8 ≤ (16777216 : Nat)) ∧
     (((0 : Nat) = (0 : Nat)) ∧
     (((0 : Nat) = (0 : Nat)) ∧
     ((List.length g.6 = (380 : Nat)) ∧
     (((0 : Nat) = (0 : Nat)) ∧
     (((↑(0 : Nat) : Int) = (0 : Int)) ∧
     ((Eq (α := List Value) (bCells g.1) (bCells l)) ∧
     ((Plain (bCells g.1)) ∧
     ((g.3 = ty) ∧
     ((g.4 = fl) ∧
     ((g.5 = st) ∧
     (((0 : Nat) = (0 : Nat)) ∧
     ((g.2 = (300 : Nat)) ∧
     ((Eq (α := List Value) (bCells g.6) (padC (Row.mk (List.take (300 : Nat) (List.drop (0 : Nat) (bCells l))) true (Ob.cells true)) (6 : Int))) ∧
     ((Plain (bCells g.6)) ∧
     ((g.7.1 = oTy ty fl st (Row.mk (List.take (300 : Nat) (List.drop (0 : Nat) (padC (Row.mk (List.take (300 : Nat) (List.drop (0 : Nat) (bCells l))) true (Ob.cells true)) (6 : Int)))) true (Ob.cells true))) ∧
     ((g.7.2 = oSt ty fl st (Row.mk (List.take (300 : Nat) (List.drop (0 : Nat) (padC (Row.mk (List.take (300 : Nat) (List.drop (0 : Nat) (bCells l))) true (Ob.cells true)) (6 : Int)))) true (Ob.cells true))) ∧
     ((g.7.3 = oE ty fl st (Row.mk (List.take (300 : Nat) (List.drop (0 : Nat) (padC (Row.mk (List.take (300 : Nat) (List.drop (0 : Nat) (bCells l))) true (Ob.cells true)) (6 : Int)))) true (Ob.cells true))) ∧
     ((g.7.4 = oF ty fl st (Row.mk (List.take (300 : Nat) (List.drop (0 : Nat) (padC (Row.mk (List.take (300 : Nat) (List.drop (0 : Nat) (bCells l))) true (Ob.cells true)) (6 : Int)))) true (Ob.cells true))) ∧
     ((g.7.5 = oA ty fl st (Row.mk (List.take (300 : Nat) (List.drop (0 : Nat) (padC (Row.mk (List.take (300 : Nat) (List.drop (0 : Nat) (bCells l))) true (Ob.cells true)) (6 : Int)))) true (Ob.cells true))) ∧
     (((0 : Nat) = (0 : Nat)) ∧
     ((List.length g.8 = oBn ty fl st (Row.mk (List.take (300 : Nat) (List.drop (0 : Nat) (padC (Row.mk (List.take (300 : Nat) (List.drop (0 : Nat) (bCells l))) true (Ob.cells true)) (6 : Int)))) true (Ob.cells true))) ∧
     ((g.7.6 = oCo ty fl st (Row.mk (List.take (300 : Nat) (List.drop (0 : Nat) (padC (Row.mk (List.take (300 : Nat) (List.drop (0 : Nat) (bCells l))) true (Ob.cells true)) (6 : Int)))) true (Ob.cells true))) ∧
     ((g.7.7 = oLa ty fl st (Row.mk (List.take (300 : Nat) (List.drop (0 : Nat) (padC (Row.mk (List.take (300 : Nat) (List.drop (0 : Nat) (bCells l))) true (Ob.cells true)) (6 : Int)))) true (Ob.cells true))) ∧
     ((g.7.8 = oMo ty fl st (Row.mk (List.take (300 : Nat) (List.drop (0 : Nat) (padC (Row.mk (List.take (300 : Nat) (List.drop (0 : Nat) (bCells l))) true (Ob.cells true)) (6 : Int)))) true (Ob.cells true))) ∧
     ((g.7.9 = oCs ty fl st (Row.mk (List.take (300 : Nat) (List.drop (0 : Nat) (padC (Row.mk (List.take (300 : Nat) (List.drop (0 : Nat) (bCells l))) true (Ob.cells true)) (6 : Int)))) true (Ob.cells true))) ∧
     (((0 : Nat) = (0 : Nat)) ∧
     ((List.length g.9 = oSn ty fl st (Row.mk (List.take (300 : Nat) (List.drop (0 : Nat) (padC (Row.mk (List.take (300 : Nat) (List.drop (0 : Nat) (bCells l))) true (Ob.cells true)) (6 : Int)))) true (Ob.cells true))) ∧
     ((Eq (α := List Value) (iC g.8) (oBc ty fl st (Row.mk (List.take (300 : Nat) (List.drop (0 : Nat) (padC (Row.mk (List.take (300 : Nat) (List.drop (0 : Nat) (bCells l))) true (Ob.cells true)) (6 : Int)))) true (Ob.cells true)))) ∧
     ((Plain (iC g.8)) ∧
     ((Eq (α := List Value) (gC seC g.9) (oSc ty fl st (Row.mk (List.take (300 : Nat) (List.drop (0 : Nat) (padC (Row.mk (List.take (300 : Nat) (List.drop (0 : Nat) (bCells l))) true (Ob.cells true)) (6 : Int)))) true (Ob.cells true)))) ∧
     ((Plain (gC seC g.9)) ∧
     (∀ (y : Unit), ((True) →
     ((((((0 : Nat) + List.length g.6 * (1 : Nat) ≤ List.length (bCells g.6) ∧ Plain (List.take (List.length g.6 * (1 : Nat)) (List.drop (0 : Nat) (bCells g.6)))) ∧ (((0 : Nat) + g.2 * (1 : Nat) ≤ List.length (bCells g.1) ∧ Plain (List.take (g.2 * (1 : Nat)) (List.drop (0 : Nat) (bCells g.1)))) ∧ (True ∧ True))) ∧ ((True ∧ (True ∧ True)) ∧ (True ∧ (IsB (Row.mk (List.take (List.length g.6 * (1 : Nat)) (List.drop (0 : Nat) (bCells g.6))) true (Ob.cells true)) (List.length g.6) ∧ (IsB (Row.mk (List.take (g.2 * (1 : Nat)) (List.drop (0 : Nat) (bCells g.1))) true (Ob.cells true)) g.2 ∧ (IsU8 (6 : Int) ∧ (List.length g.6 ≤ (9223372036854775807 : Nat) ∧ g.2 ≤ (9223372036854775000 : Nat))))))))) ∧
     (br (inI (Row.mk (List.take (List.length g.6 * (1 : Nat)) (List.drop (0 : Nat) (bCells g.6))) true (Ob.cells true)) (Row.mk (List.take (g.2 * (1 : Nat)) (List.drop (0 : Nat) (bCells g.1))) true (Ob.cells true)) (6 : Int))
      (((True ∧ (True ∧ (True ∧ True)))) ∧
      ((true = true) ∧
      ((Eq (α := List Value) (bCells l) (bCells g.1)) ∧
      ((Plain (bCells l)) ∧
      True))))
      ((true = false) ∧
      ((Eq (α := List Value) (bCells l) (bCells g.1)) ∧
      ((Plain (bCells l)) ∧
      True)))))))))))))))))))))))))))))))))))))))))))))
    False)
   ((((((0 : Nat) + List.length l * (1 : Nat) ≤ List.length (bCells l) ∧ Plain (List.take (List.length l * (1 : Nat)) (List.drop (0 : Nat) (bCells l)))) ∧ (True ∧ True)) ∧ ((True ∧ True) ∧ ((Plain (padC (Row.mk (List.take (List.length l * (1 : Nat)) (List.drop (0 : Nat) (bCells l))) true (Ob.cells true)) (6 : Int)) ∧ True) ∧ (IsB (Row.mk (List.take (List.length l * (1 : Nat)) (List.drop (0 : Nat) (bCells l))) true (Ob.cells true)) (List.length l) ∧ (IsU8 (6 : Int) ∧ List.length l ≤ (16777136 : Nat))))))) ∧
   (br (decide ((0 : Int) ≤ (↑(0 : Nat) : Int) ∧ (0 : Int) ≤ Int.ofNat (List.length l) ∧ Int.ofNat (List.length l) ≤ (↑(List.length l + (80 : Nat)) : Int)))
    (((((True ∧ (True ∧ (True ∧ (((0 : Nat) + (Int.toNat (Int.ofNat (List.length l)) - (0 : Nat)) * (1 : Nat) ≤ List.length (padC (Row.mk (List.take (List.length l * (1 : Nat)) (List.drop (0 : Nat) (bCells l))) true (Ob.cells true)) (6 : Int)) ∧ Plain (List.take ((Int.toNat (Int.ofNat (List.length l)) - (0 : Nat)) * (1 : Nat)) (List.drop (0 : Nat) (padC (Row.mk (List.take (List.length l * (1 : Nat)) (List.drop (0 : Nat) (bCells l))) true (Ob.cells true)) (6 : Int))))) ∧ True)))) ∧ True) ∧ ((True ∧ True) ∧ ((Plain (oBc ty fl st (Row.mk (List.take ((Int.toNat (Int.ofNat (List.length l)) - (0 : Nat)) * (1 : Nat)) (List.drop (0 : Nat) (padC (Row.mk (List.take (List.length l * (1 : Nat)) (List.drop (0 : Nat) (bCells l))) true (Ob.cells true)) (6 : Int)))) true (Ob.cells true))) ∧ (Plain (oSc ty fl st (Row.mk (List.take ((Int.toNat (Int.ofNat (List.length l)) - (0 : Nat)) * (1 : Nat)) (List.drop (0 : Nat) (padC (Row.mk (List.take (List.length l * (1 : Nat)) (List.drop (0 : Nat) (bCells l))) true (Ob.cells true)) (6 : Int)))) true (Ob.cells true))) ∧ True)) ∧ (IsB (Row.mk (List.take ((Int.toNat (Int.ofNat (List.length l)) - (0 : Nat)) * (1 : Nat)) (List.drop (0 : Nat) (padC (Row.mk (List.take (List.length l * (1 : Nat)) (List.drop (0 : Nat) (bCells l))) true (Ob.cells true)) (6 : Int)))) true (Ob.cells true)) (Int.toNat (Int.ofNat (List.length l)) - (0 : Nat)) ∧ Int.toNat (Int.ofNat (List.length l)) - (0 : Nat) ≤ (16777216 : Nat)))))) ∧
    (((((True ∧ (True ∧ (True ∧ (((0 : Nat) + List.length l * (1 : Nat) ≤ List.length (bCells l) ∧ Plain (List.take (List.length l * (1 : Nat)) (List.drop (0 : Nat) (bCells l)))) ∧ True)))) ∧ True) ∧ ((True ∧ True) ∧ ((Plain (oBc ty fl st (Row.mk (List.take (List.length l * (1 : Nat)) (List.drop (0 : Nat) (bCells l))) true (Ob.cells true))) ∧ (Plain (oSc ty fl st (Row.mk (List.take (List.length l * (1 : Nat)) (List.drop (0 : Nat) (bCells l))) true (Ob.cells true))) ∧ True)) ∧ (IsB (Row.mk (List.take (List.length l * (1 : Nat)) (List.drop (0 : Nat) (bCells l))) true (Ob.cells true)) (List.length l) ∧ List.length l ≤ (16777216 : Nat)))))) ∧
    (br (!(oXs ty fl st (Row.mk (List.take ((Int.toNat (Int.ofNat (List.length l)) - (0 : Nat)) * (1 : Nat)) (List.drop (0 : Nat) (padC (Row.mk (List.take (List.length l * (1 : Nat)) (List.drop (0 : Nat) (bCells l))) true (Ob.cells true)) (6 : Int)))) true (Ob.cells true)) == oXs ty fl st (Row.mk (List.take (List.length l * (1 : Nat)) (List.drop (0 : Nat) (bCells l))) true (Ob.cells true)) && (oXc ty fl st (Row.mk (List.take ((Int.toNat (Int.ofNat (List.length l)) - (0 : Nat)) * (1 : Nat)) (List.drop (0 : Nat) (padC (Row.mk (List.take (List.length l * (1 : Nat)) (List.drop (0 : Nat) (bCells l))) true (Ob.cells true)) (6 : Int)))) true (Ob.cells true)) == oXc ty fl st (Row.mk (List.take (List.length l * (1 : Nat)) (List.drop (0 : Nat) (bCells l))) true (Ob.cells true)) && (oXn ty fl st (Row.mk (List.take ((Int.toNat (Int.ofNat (List.length l)) - (0 : Nat)) * (1 : Nat)) (List.drop (0 : Nat) (padC (Row.mk (List.take (List.length l * (1 : Nat)) (List.drop (0 : Nat) (bCells l))) true (Ob.cells true)) (6 : Int)))) true (Ob.cells true)) == oXn ty fl st (Row.mk (List.take (List.length l * (1 : Nat)) (List.drop (0 : Nat) (bCells l))) true (Ob.cells true)) && true))))
     ((true = false) ∧
     ((Eq (α := List Value) (bCells l) (bCells l)) ∧
     ((Plain (bCells l)) ∧
     True)))
     (((((True ∧ (True ∧ (True ∧ (True ∧ (True ∧ (((0 : Nat) + oBn ty fl st (Row.mk (List.take ((Int.toNat (Int.ofNat (List.length l)) - (0 : Nat)) * (1 : Nat)) (List.drop (0 : Nat) (padC (Row.mk (List.take (List.length l * (1 : Nat)) (List.drop (0 : Nat) (bCells l))) true (Ob.cells true)) (6 : Int)))) true (Ob.cells true)) * (1 : Nat) ≤ List.length (oBc ty fl st (Row.mk (List.take ((Int.toNat (Int.ofNat (List.length l)) - (0 : Nat)) * (1 : Nat)) (List.drop (0 : Nat) (padC (Row.mk (List.take (List.length l * (1 : Nat)) (List.drop (0 : Nat) (bCells l))) true (Ob.cells true)) (6 : Int)))) true (Ob.cells true))) ∧ Plain (List.take (oBn ty fl st (Row.mk (List.take ((Int.toNat (Int.ofNat (List.length l)) - (0 : Nat)) * (1 : Nat)) (List.drop (0 : Nat) (padC (Row.mk (List.take (List.length l * (1 : Nat)) (List.drop (0 : Nat) (bCells l))) true (Ob.cells true)) (6 : Int)))) true (Ob.cells true)) * (1 : Nat)) (List.drop (0 : Nat) (oBc ty fl st (Row.mk (List.take ((Int.toNat (Int.ofNat (List.length l)) - (0 : Nat)) * (1 : Nat)) (List.drop (0 : Nat) (padC (Row.mk (List.take (List.length l * (1 : Nat)) (List.drop (0 : Nat) (bCells l))) true (Ob.cells true)) (6 : Int)))) true (Ob.cells true)))))) ∧ (True ∧ (True ∧ (True ∧ (True ∧ (((0 : Nat) + oSn ty fl st (Row.mk (List.take ((Int.toNat (Int.ofNat (List.length l)) - (0 : Nat)) * (1 : Nat)) (List.drop (0 : Nat) (padC (Row.mk (List.take (List.length l * (1 : Nat)) (List.drop (0 : Nat) (bCells l))) true (Ob.cells true)) (6 : Int)))) true (Ob.cells true)) * (2 : Nat) ≤ List.length (oSc ty fl st (Row.mk (List.take ((Int.toNat (Int.ofNat (List.length l)) - (0 : Nat)) * (1 : Nat)) (List.drop (0 : Nat) (padC (Row.mk (List.take (List.length l * (1 : Nat)) (List.drop (0 : Nat) (bCells l))) true (Ob.cells true)) (6 : Int)))) true (Ob.cells true))) ∧ Plain (List.take (oSn ty fl st (Row.mk (List.take ((Int.toNat (Int.ofNat (List.length l)) - (0 : Nat)) * (1 : Nat)) (List.drop (0 : Nat) (padC (Row.mk (List.take (List.length l * (1 : Nat)) (List.drop (0 : Nat) (bCells l))) true (Ob.cells true)) (6 : Int)))) true (Ob.cells true)) * (2 : Nat)) (List.drop (0 : Nat) (oSc ty fl st (Row.mk (List.take ((Int.toNat (Int.ofNat (List.length l)) - (0 : Nat)) * (1 : Nat)) (List.drop (0 : Nat) (padC (Row.mk (List.take (List.length l * (1 : Nat)) (List.drop (0 : Nat) (bCells l))) true (Ob.cells true)) (6 : Int)))) true (Ob.cells true)))))) ∧ True))))))))))) ∧ ((True ∧ (True ∧ (True ∧ (True ∧ (True ∧ (((0 : Nat) + oBn ty fl st (Row.mk (List.take (List.length l * (1 : Nat)) (List.drop (0 : Nat) (bCells l))) true (Ob.cells true)) * (1 : Nat) ≤ List.length (oBc ty fl st (Row.mk (List.take (List.length l * (1 : Nat)) (List.drop (0 : Nat) (bCells l))) true (Ob.cells true))) ∧ Plain (List.take (oBn ty fl st (Row.mk (List.take (List.length l * (1 : Nat)) (List.drop (0 : Nat) (bCells l))) true (Ob.cells true)) * (1 : Nat)) (List.drop (0 : Nat) (oBc ty fl st (Row.mk (List.take (List.length l * (1 : Nat)) (List.drop (0 : Nat) (bCells l))) true (Ob.cells true)))))) ∧ (True ∧ (True ∧ (True ∧ (True ∧ (((0 : Nat) + oSn ty fl st (Row.mk (List.take (List.length l * (1 : Nat)) (List.drop (0 : Nat) (bCells l))) true (Ob.cells true)) * (2 : Nat) ≤ List.length (oSc ty fl st (Row.mk (List.take (List.length l * (1 : Nat)) (List.drop (0 : Nat) (bCells l))) true (Ob.cells true))) ∧ Plain (List.take (oSn ty fl st (Row.mk (List.take (List.length l * (1 : Nat)) (List.drop (0 : Nat) (bCells l))) true (Ob.cells true)) * (2 : Nat)) (List.drop (0 : Nat) (oSc ty fl st (Row.mk (List.take (List.length l * (1 : Nat)) (List.drop (0 : Nat) (bCells l))) true (Ob.cells true)))))) ∧ True))))))))))) ∧ True)) ∧ ((True ∧ (True ∧ (True ∧ (True ∧ True)))) ∧ (True ∧ (IsB (Row.mk (List.take (oBn ty fl st (Row.mk (List.take ((Int.toNat (Int.ofNat (List.length l)) - (0 : Nat)) * (1 : Nat)) (List.drop (0 : Nat) (padC (Row.mk (List.take (List.length l * (1 : Nat)) (List.drop (0 : Nat) (bCells l))) true (Ob.cells true)) (6 : Int)))) true (Ob.cells true)) * (1 : Nat)) (List.drop (0 : Nat) (oBc ty fl st (Row.mk (List.take ((Int.toNat (Int.ofNat (List.length l)) - (0 : Nat)) * (1 : Nat)) (List.drop (0 : Nat) (padC (Row.mk (List.take (List.length l * (1 : Nat)) (List.drop (0 : Nat) (bCells l))) true (Ob.cells true)) (6 : Int)))) true (Ob.cells true))))) true (Ob.cells true)) (oBn ty fl st (Row.mk (List.take ((Int.toNat (Int.ofNat (List.length l)) - (0 : Nat)) * (1 : Nat)) (List.drop (0 : Nat) (padC (Row.mk (List.take (List.length l * (1 : Nat)) (List.drop (0 : Nat) (bCells l))) true (Ob.cells true)) (6 : Int)))) true (Ob.cells true))) ∧ (IsB (Row.mk (List.take (oBn ty fl st (Row.mk (List.take (List.length l * (1 : Nat)) (List.drop (0 : Nat) (bCells l))) true (Ob.cells true)) * (1 : Nat)) (List.drop (0 : Nat) (oBc ty fl st (Row.mk (List.take (List.length l * (1 : Nat)) (List.drop (0 : Nat) (bCells l))) true (Ob.cells true))))) true (Ob.cells true)) (oBn ty fl st (Row.mk (List.take (List.length l * (1 : Nat)) (List.drop (0 : Nat) (bCells l))) true (Ob.cells true))) ∧ (IsSe (Row.mk (List.take (oSn ty fl st (Row.mk (List.take ((Int.toNat (Int.ofNat (List.length l)) - (0 : Nat)) * (1 : Nat)) (List.drop (0 : Nat) (padC (Row.mk (List.take (List.length l * (1 : Nat)) (List.drop (0 : Nat) (bCells l))) true (Ob.cells true)) (6 : Int)))) true (Ob.cells true)) * (2 : Nat)) (List.drop (0 : Nat) (oSc ty fl st (Row.mk (List.take ((Int.toNat (Int.ofNat (List.length l)) - (0 : Nat)) * (1 : Nat)) (List.drop (0 : Nat) (padC (Row.mk (List.take (List.length l * (1 : Nat)) (List.drop (0 : Nat) (bCells l))) true (Ob.cells true)) (6 : Int)))) true (Ob.cells true))))) true (Ob.cells true)) (oSn ty fl st (Row.mk (List.take ((Int.toNat (Int.ofNat (List.length l)) - (0 : Nat)) * (1 : Nat)) (List.drop (0 : Nat) (padC (Row.mk (List.take (List.length l * (1 : Nat)) (List.drop (0 : Nat) (bCells l))) true (Ob.cells true)) (6 : Int)))) true (Ob.cells true))) ∧ (IsSe (Row.mk (List.take (oSn ty fl st (Row.mk (List.take (List.length l * (1 : Nat)) (List.drop (0 : Nat) (bCells l))) true (Ob.cells true)) * (2 : Nat)) (List.drop (0 : Nat) (oSc ty fl st (Row.mk (List.take (List.length l * (1 : Nat)) (List.drop (0 : Nat) (bCells l))) true (Ob.cells true))))) true (Ob.cells true)) (oSn ty fl st (Row.mk (List.take (List.length l * (1 : Nat)) (List.drop (0 : Nat) (bCells l))) true (Ob.cells true))) ∧ (oBn ty fl st (Row.mk (List.take ((Int.toNat (Int.ofNat (List.length l)) - (0 : Nat)) * (1 : Nat)) (List.drop (0 : Nat) (padC (Row.mk (List.take (List.length l * (1 : Nat)) (List.drop (0 : Nat) (bCells l))) true (Ob.cells true)) (6 : Int)))) true (Ob.cells true)) ≤ (9223372036854775807 : Nat) ∧ (oSn ty fl st (Row.mk (List.take ((Int.toNat (Int.ofNat (List.length l)) - (0 : Nat)) * (1 : Nat)) (List.drop (0 : Nat) (padC (Row.mk (List.take (List.length l * (1 : Nat)) (List.drop (0 : Nat) (bCells l))) true (Ob.cells true)) (6 : Int)))) true (Ob.cells true)) ≤ (9223372036854775807 : Nat) ∧ (Eq (α := List Value) (List.take (oBn ty fl st (Row.mk (List.take ((Int.toNat (Int.ofNat (List.length l)) - (0 : Nat)) * (1 : Nat)) (List.drop (0 : Nat) (padC (Row.mk (List.take (List.length l * (1 : Nat)) (List.drop (0 : Nat) (bCells l))) true (Ob.cells true)) (6 : Int)))) true (Ob.cells true)) * (1 : Nat)) (List.drop (0 : Nat) (oBc ty fl st (Row.mk (List.take ((Int.toNat (Int.ofNat (List.length l)) - (0 : Nat)) * (1 : Nat)) (List.drop (0 : Nat) (padC (Row.mk (List.take (List.length l * (1 : Nat)) (List.drop (0 : Nat) (bCells l))) true (Ob.cells true)) (6 : Int)))) true (Ob.cells true))))) (List.take (oBn ty fl st (Row.mk (List.take (List.length l * (1 : Nat)) (List.drop (0 : Nat) (bCells l))) true (Ob.cells true)) * (1 : Nat)) (List.drop (0 : Nat) (oBc ty fl st (Row.mk (List.take (List.length l * (1 : Nat)) (List.drop (0 : Nat) (bCells l))) true (Ob.cells true))))) ∧ (Eq (α := List Value) (List.take (oSn ty fl st (Row.mk (List.take ((Int.toNat (Int.ofNat (List.length l)) - (0 : Nat)) * (1 : Nat)) (List.drop (0 : Nat) (padC (Row.mk (List.take (List.length l * (1 : Nat)) (List.drop (0 : Nat) (bCells l))) true (Ob.cells true)) (6 : Int)))) true (Ob.cells true)) * (2 : Nat)) (List.drop (0 : Nat) (oSc ty fl st (Row.mk (List.take ((Int.toNat (Int.ofNat (List.length l)) - (0 : Nat)) * (1 : Nat)) (List.drop (0 : Nat) (padC (Row.mk (List.take (List.length l * (1 : Nat)) (List.drop (0 : Nat) (bCells l))) true (Ob.cells true)) (6 : Int)))) true (Ob.cells true))))) (List.take (oSn ty fl st (Row.mk (List.take (List.length l * (1 : Nat)) (List.drop (0 : Nat) (bCells l))) true (Ob.cells true)) * (2 : Nat)) (List.drop (0 : Nat) (oSc ty fl st (Row.mk (List.take (List.length l * (1 : Nat)) (List.drop (0 : Nat) (bCells l))) true (Ob.cells true))))) ∧ (oTy ty fl st (Row.mk (List.take ((Int.toNat (Int.ofNat (List.length l)) - (0 : Nat)) * (1 : Nat)) (List.drop (0 : Nat) (padC (Row.mk (List.take (List.length l * (1 : Nat)) (List.drop (0 : Nat) (bCells l))) true (Ob.cells true)) (6 : Int)))) true (Ob.cells true)) = oTy ty fl st (Row.mk (List.take (List.length l * (1 : Nat)) (List.drop (0 : Nat) (bCells l))) true (Ob.cells true)) ∧ (oSt ty fl st (Row.mk (List.take ((Int.toNat (Int.ofNat (List.length l)) - (0 : Nat)) * (1 : Nat)) (List.drop (0 : Nat) (padC (Row.mk (List.take (List.length l * (1 : Nat)) (List.drop (0 : Nat) (bCells l))) true (Ob.cells true)) (6 : Int)))) true (Ob.cells true)) = oSt ty fl st (Row.mk (List.take (List.length l * (1 : Nat)) (List.drop (0 : Nat) (bCells l))) true (Ob.cells true)) ∧ (oE ty fl st (Row.mk (List.take ((Int.toNat (Int.ofNat (List.length l)) - (0 : Nat)) * (1 : Nat)) (List.drop (0 : Nat) (padC (Row.mk (List.take (List.length l * (1 : Nat)) (List.drop (0 : Nat) (bCells l))) true (Ob.cells true)) (6 : Int)))) true (Ob.cells true)) = oE ty fl st (Row.mk (List.take (List.length l * (1 : Nat)) (List.drop (0 : Nat) (bCells l))) true (Ob.cells true)) ∧ (oF ty fl st (Row.mk (List.take ((Int.toNat (Int.ofNat (List.length l)) - (0 : Nat)) * (1 : Nat)) (List.drop (0 : Nat) (padC (Row.mk (List.take (List.length l * (1 : Nat)) (List.drop (0 : Nat) (bCells l))) true (Ob.cells true)) (6 : Int)))) true (Ob.cells true)) = oF ty fl st (Row.mk (List.take (List.length l * (1 : Nat)) (List.drop (0 : Nat) (bCells l))) true (Ob.cells true)) ∧ (oA ty fl st (Row.mk (List.take ((Int.toNat (Int.ofNat (List.length l)) - (0 : Nat)) * (1 : Nat)) (List.drop (0 : Nat) (padC (Row.mk (List.take (List.length l * (1 : Nat)) (List.drop (0 : Nat) (bCells l))) true (Ob.cells true)) (6 : Int)))) true (Ob.cells true)) = oA ty fl st (Row.mk (List.take (List.length l * (1 : Nat)) (List.drop (0 : Nat) (bCells l))) true (Ob.cells true)) ∧ (oCo ty fl st (Row.mk (List.take ((Int.toNat (Int.ofNat (List.length l)) - (0 : Nat)) * (1 : Nat)) (List.drop (0 : Nat) (padC (Row.mk (List.take (List.length l * (1 : Nat)) (List.drop (0 : Nat) (bCells l))) true (Ob.cells true)) (6 : Int)))) true (Ob.cells true)) = oCo ty fl st (Row.mk (List.take (List.length l * (1 : Nat)) (List.drop (0 : Nat) (bCells l))) true (Ob.cells true)) ∧ (oLa ty fl st (Row.mk (List.take ((Int.toNat (Int.ofNat (List.length l)) - (0 : Nat)) * (1 : Nat)) (List.drop (0 : Nat) (padC (Row.mk (List.take (List.length l * (1 : Nat)) (List.drop (0 : Nat) (bCells l))) true (Ob.cells true)) (6 : Int)))) true (Ob.cells true)) = oLa ty fl st (Row.mk (List.take (List.length l * (1 : Nat)) (List.drop (0 : Nat) (bCells l))) true (Ob.cells true)) ∧ (oMo ty fl st (Row.mk (List.take ((Int.toNat (Int.ofNat (List.length l)) - (0 : Nat)) * (1 : Nat)) (List.drop (0 : Nat) (padC (Row.mk (List.take (List.length l * (1 : Nat)) (List.drop (0 : Nat) (bCells l))) true (Ob.cells true)) (6 : Int)))) true (Ob.cells true)) = oMo ty fl st (Row.mk (List.take (List.length l * (1 : Nat)) (List.drop (0 : Nat) (bCells l))) true (Ob.cells true)) ∧ oCs ty fl st (Row.mk (List.take ((Int.toNat (Int.ofNat (List.length l)) - (0 : Nat)) * (1 : Nat)) (List.drop (0 : Nat) (padC (Row.mk (List.take (List.length l * (1 : Nat)) (List.drop (0 : Nat) (bCells l))) true (Ob.cells true)) (6 : Int)))) true (Ob.cells true)) = oCs ty fl st (Row.mk (List.take (List.length l * (1 : Nat)) (List.drop (0 : Nat) (bCells l))) true (Ob.cells true)))))))))))))))))))))) ∧
     (∃ g : GXr, ((List.length g.8 ≤ (16777216 : Nat)) ∧
     (((0 : Nat) = (0 : Nat)) ∧
     (((0 : Nat) = (0 : Nat)) ∧
     ((List.length g.6 = List.length l + (80 : Nat)) ∧
     (((0 : Nat) = (0 : Nat)) ∧
     (((↑(0 : Nat) : Int) = (0 : Int)) ∧
     ((Eq (α := List Value) (bCells g.1) (bCells l)) ∧
     ((Plain (bCells g.1)) ∧
     ((g.3 = ty) ∧
     ((g.4 = fl) ∧
     ((g.5 = st) ∧
     (((0 : Nat) = (0 : Nat)) ∧
     ((g.2 = List.length l) ∧
     ((Eq (α := List Value) (bCells g.6) (padC (Row.mk (List.take (List.length l * (1 : Nat)) (List.drop (0 : Nat) (bCells l))) true (Ob.cells true)) (6 : Int))) ∧
     ((Plain (bCells g.6)) ∧
     ((g.7.1 = oTy ty fl st (Row.mk (List.take ((Int.toNat (Int.ofNat (List.length l)) - (0 : Nat)) * (1 : Nat)) (List.drop (0 : Nat) (padC (Row.mk (List.take (List.length l * (1 : Nat)) (List.drop (0 : Nat) (bCells l))) true (Ob.cells true)) (6 : Int)))) true (Ob.cells true))) ∧
     ((g.7.2 = oSt ty fl st (Row.mk (List.take ((Int.toNat (Int.ofNat (List.length l)) - (0 : Nat)) * (1 : Nat)) (List.drop (0 : Nat) (padC (Row.mk (List.take (List.length l * (1 : Nat)) (List.drop (0 : Nat) (bCells l))) true (Ob.cells true)) (6 : Int)))) true (Ob.cells true))) ∧
     ((g.7.3 = oE ty fl st (Row.mk (List.take ((Int.toNat (Int.ofNat (List.length l)) - (0 : Nat)) * (1 : Nat)) (List.drop (0 : Nat) (padC (Row.mk (List.take (List.length l * (1 : Nat)) (List.drop (0 : Nat) (bCells l))) true (Ob.cells true)) (6 : Int)))) true (Ob.cells true))) ∧
     ((g.7.4 = oF ty fl st (Row.mk (List.take ((Int.toNat (Int.ofNat (List.length l)) - (0 : Nat)) * (1 : Nat)) (List.drop (0 : Nat) (padC (Row.mk (List.take (List.length l * (1 : Nat)) (List.drop (0 : Nat) (bCells l))) true (Ob.cells true)) (6 : Int)))) true (Ob.cells true))) ∧
     ((g.7.5 = oA ty fl st (Row.mk (List.take ((Int.toNat (Int.ofNat (List.length l)) - (0 : Nat)) * (1 : Nat)) (List.drop (0 : Nat) (padC (Row.mk (List.take (List.length l * (1 : Nat)) (List.drop (0 : Nat) (bCells l))) true (Ob.cells true)) (6 : Int)))) true (Ob.cells true))) ∧
     (((0 : Nat) = (0 : Nat)) ∧
     ((List.length g.8 = oBn ty fl st (Row.mk (List.take ((Int.toNat (Int.ofNat (List.length l)) - (0 : Nat)) * (1 : Nat)) (List.drop (0 : Nat) (padC (Row.mk (List.take (List.length l * (1 : Nat)) (List.drop (0 : Nat) (bCells l))) true (Ob.cells true)) (6 : Int)))) true (Ob.cells true))) ∧
     ((g.7.6 = oCo ty fl st (Row.mk (List.take ((Int.toNat (Int.ofNat (List.length l)) - (0 : Nat)) * (1 : Nat)) (List.drop (0 : Nat) (padC (Row.mk (List.take (List.length l * (1 : Nat)) (List.drop (0 : Nat) (bCells l))) true (Ob.cells true)) (6 : Int)))) true (Ob.cells true))) ∧
     ((g.7.7 = oLa ty fl st (Row.mk (List.take ((Int.toNat (Int.ofNat (List.length l)) - (0 : Nat)) * (1 : Nat)) (List.drop (0 : Nat) (padC (Row.mk (List.take (List.length l * (1 : Nat)) (List.drop (0 : Nat) (bCells l))) true (Ob.cells true)) (6 : Int)))) true (Ob.cells true))) ∧
     ((g.7.8 = oMo ty fl st (Row.mk (List.take ((Int.toNat (Int.ofNat (List.length l)) - (0 : Nat)) * (1 : Nat)) (List.drop (0 : Nat) (padC (Row.mk (List.take (List.length l * (1 : Nat)) (List.drop (0 : Nat) (bCells l))) true (Ob.cells true)) (6 : Int)))) true (Ob.cells true))) ∧
     ((g.7.9 = oCs ty fl st (Row.mk (List.take ((Int.toNat (Int.ofNat (List.length l)) - (0 : Nat)) * (1 : Nat)) (List.drop (0 : Nat) (padC (Row.mk (List.take (List.length l * (1 : Nat)) (List.drop (0 : Nat) (bCells l))) true (Ob.cells true)) (6 : Int)))) true (Ob.cells true))) ∧
     (((0 : Nat) = (0 : Nat)) ∧
     ((List.length g.9 = oSn ty fl st (Row.mk (List.take ((Int.toNat (Int.ofNat (List.length l)) - (0 : Nat)) * (1 : Nat)) (List.drop (0 : Nat) (padC (Row.mk (List.take (List.length l * (1 : Nat)) (List.drop (0 : Nat) (bCells l))) true (Ob.cells true)) (6 : Int)))) true (Ob.cells true))) ∧
     ((Eq (α := List Value) (iC g.8) (oBc ty fl st (Row.mk (List.take ((Int.toNat (Int.ofNat (List.length l)) - (0 : Nat)) * (1 : Nat)) (List.drop (0 : Nat) (padC (Row.mk (List.take (List.length l * (1 : Nat)) (List.drop (0 : Nat) (bCells l))) true (Ob.cells true)) (6 : Int)))) true (Ob.cells true)))) ∧
     ((Plain (iC g.8)) ∧
     ((Eq (α := List Value) (gC seC g.9) (oSc ty fl st (Row.mk (List.take ((Int.toNat (Int.ofNat (List.length l)) - (0 : Nat)) * (1 : Nat)) (List.drop (0 : Nat) (padC (Row.mk (List.take (List.length l * (1 : Nat)) (List.drop (0 : Nat) (bCells l))) true (Ob.cells true)) (6 : Int)))) true (Ob.cells true)))) ∧
     ((Plain (gC seC g.9)) ∧
     (∀ (y : Unit), ((True) →
     ((((((0 : Nat) + List.length g.6 * (1 : Nat) ≤ List.length (bCells g.6) ∧ Plain (List.take (List.length g.6 * (1 : Nat)) (List.drop (0 : Nat) (bCells g.6)))) ∧ (((0 : Nat) + g.2 * (1 : Nat) ≤ List.length (bCells g.1) ∧ Plain (List.take (g.2 * (1 : Nat)) (List.drop (0 : Nat) (bCells g.1)))) ∧ (True ∧ True))) ∧ ((True ∧ (True ∧ True)) ∧ (True ∧ (IsB (Row.mk (List.take (List.length g.6 * (1 : Nat)) (List.drop (0 : Nat) (bCells g.6))) true (Ob.cells true)) (List.length g.6) ∧ (IsB (Row.mk (List.take (g.2 * (1 : Nat)) (List.drop (0 : Nat) (bCells g.1))) true (Ob.cells true)) g.2 ∧ (IsU8 (6 : Int) ∧ (List.length g.6 ≤ (9223372036854775807 : Nat) ∧ g.2 ≤ (9223372036854775000 : Nat))))))))) ∧
     (br (inI (Row.mk (List.take (List.length g.6 * (1 : Nat)) (List.drop (0 : Nat) (bCells g.6))) true (Ob.cells true)) (Row.mk (List.take (g.2 * (1 : Nat)) (List.drop (0 : Nat) (bCells g.1))) true (Ob.cells true)) (6 : Int))
      (((True ∧ (True ∧ (True ∧ True)))) ∧
      ((true = true) ∧
      ((Eq (α := List Value) (bCells l) (bCells g.1)) ∧
      ((Plain (bCells l)) ∧
      True))))
      ((true = false) ∧
      ((Eq (α := List Value) (bCells l) (bCells g.1)) ∧
      ((Plain (bCells l)) ∧
      True))))))))))))))))))))))))))))))))))))))))))))
    False))) := by kernel_rfl
theorem eRsh_ok : EntOk Try.prog eRsh := entC_ok (by
  intro a rows p v news h hp
  split at h <;> simp only [Option.some.injEq, Prod.mk.injEq, reduceCtorEq] at h
  obtain ⟨rfl, rfl, rfl⟩ := h
  obtain ⟨⟨l, rfl, rfl⟩, h1⟩ := hp
  simp only [oTy, oSt, oE, oF, oA, oCo, oLa, oMo, oCs, oBn, oBc, oSn, oSc, oXs, oXc, oXn, dB_ro]
  exact Rsh_con _ _ _ l h1)
theorem eRoo_ok : EntOk Try.prog eRoo := entC_ok (by
  intro a rows p v news h hp
  split at h <;> simp only [Option.some.injEq, Prod.mk.injEq, reduceCtorEq] at h
  obtain ⟨rfl, rfl, rfl⟩ := h
  obtain ⟨⟨l, rfl, rfl⟩, ⟨m, rfl⟩, h1⟩ := hp
  simp only [padC, dB_ro, u8i, Int.toNat_natCast, UInt8.ofNat_toNat]
  exact Go.Proofs.Ytagahikocoggcaa.bk.roomy_con l m h1)
theorem eIntB_ok : EntOk Try.prog eIntB := entC_ok (by
  intro a rows p v news h hp
  split at h <;> simp only [Option.some.injEq, Prod.mk.injEq, reduceCtorEq] at h
  obtain ⟨rfl, rfl, rfl⟩ := h
  obtain ⟨⟨l, rfl, rfl⟩, ⟨l2, rfl, rfl⟩, ⟨m, rfl⟩, h1, h2⟩ := hp
  simp only [inI, dB_ro, u8i, Int.toNat_natCast, UInt8.ofNat_toNat, List.append_nil]
  exact Go.Proofs.Ytagahikocoggcaa.bk.int_con l l2 m h1 h2)
theorem eRunsT_ok : EntOk Try.prog eRunsT := entC_ok (by
  intro a rows p v news h hp
  split at h <;> simp only [Option.some.injEq, Prod.mk.injEq, reduceCtorEq] at h
  obtain ⟨rfl, rfl, rfl⟩ := h
  exact con_run mixed (n := 1000000) (by kernel_rfl) (by kernel_rfl))
theorem tSt_ok : ∀ x ∈ tSt, EntOk Try.prog x := all_cons eOf_ok (all_cons eRsh_ok (all_cons ePa_ok (all_cons eRoo_ok (all_cons eIntB_ok (all_cons eRunsT_ok (all_nil))))))
theorem iC_get (c : List Int) (i : Nat) (h : i < c.length) : (iC c)[i]? = some (.int .u8 c[i]) := by simp [iC, h]
theorem iC_len (c : List Int) : (iC c).length = c.length := by simp [iC]
theorem iC_plain (c : List Int) : Plain (iC c) := by
  intro v hv
  simp only [iC, List.mem_map] at hv
  obtain ⟨x, _, rfl⟩ := hv
  rfl
theorem iC_ovr (c : List Int) (i : Nat) (v : Int) : iC (ovr c i [v]) = ovr (iC c) i [.int .u8 v] := by simp [iC, ovr, List.map_append, List.map_take, List.map_drop]
theorem iC_by (l : List UInt8) : iC (l.map fun x => (x.toNat : Int)) = bCells l := by simp [iC, bCells, bVal]
theorem Xr_piece : PieceOk EtSt 1 (4, pXr, specXr) := by
  refine piece_loop mixed (calls_envT tSt_ok) (lok_envT _ _) lm_none (n := 60) (by kernel_rfl) (fun g : GXr => (⟨0, g.b⟩ : StXr)) (fun g s => s.c.length = g.b.length ∧ s.i ≤ g.b.length) (fun g s => g.b.length - s.i) (sl := slXr) (rl := rlXr) (fun g hg => ⟨rfl, Nat.zero_le _⟩) (fun g s hg hi => ?_)
  refine (Xr_round g s _ _).mpr ?_
  obtain ⟨i, c⟩ := s
  obtain ⟨h1, h2⟩ := hi
  simp only at h1 h2
  simp only [ofNat_eq, toNat_cast, Nat.zero_add, Nat.add_zero, Nat.mul_one, List.drop_zero, bCells_len, bCells_drop, bCells_take, bCells_app, bCells_one, bCells_plain, List.length_replicate, List.length_append, List.length_take, List.length_drop, List.take_length, and_true, true_and, and_self, decide_true, List.length_nil, List.length_cons, Nat.sub_zero, dB_mk, dB_ro, List.take_zero]
  refine br_if (fun h => br_dec (by omega) ⟨?_, br_dec (by omega) (br_dec (by rw [iC_len]; omega) ⟨⟨i + 1, ovr c i [ixor .u8 (cellI (iC c) i) 255]⟩, ⟨?_, by simp only; omega⟩, by simp only; omega, (i64_succ (by omega)).symm, iC_ovr _ _ _, iC_plain _, sePl _⟩)⟩) (fun h => ⟨(), trivial⟩)
  · have h3 : i < c.length := by omega
    rw [cellI_of (iC_get c i h3), iC_get c i h3]
  · simp only
    rw [ovr_length _ _ _ (by simp; omega)]; exact h1
theorem sets_le : ∀ l : List UInt8, (sets l).length ≤ l.length
  | a :: b :: c :: d :: e :: f :: r => by have := sets_le r; simp [sets]; omega
  | [] | [_] | [_, _] | [_, _, _] | [_, _, _, _] | [_, _, _, _, _] => by simp [sets]
theorem seGood_le : ∀ l : List Se, (seGood l).length ≤ l.length
  | [] => Nat.le_refl _
  | s :: l => by
    have := seGood_le l
    unfold seGood; split
    · simp; exact this
    · simp
theorem stSe_le (fl : Int) (l : List UInt8) : (stSe fl l).length ≤ l.length := by
  have h1 := sets_le l
  have h2 := seGood_le (sets l)
  unfold stSe; split
  · simp
  · omega
theorem se_le (ty fl st : Int) (l : List UInt8) : (shO ty fl st l).se.length ≤ l.length := by
  have h := stSe_le fl l
  have pk : ∀ (a b c : Int) (o : ShO), o.se.length ≤ l.length → (pickO a b c o).se.length ≤ l.length := fun a b c o h => by
    unfold pickO; split
    · exact h
    · exact Nat.zero_le _
  unfold shO
  split
  · exact Nat.zero_le _
  split
  · exact Nat.zero_le _
  unfold tyO
  repeat' (first | split | exact pk _ _ _ _ h | exact pk _ _ _ _ (Nat.zero_le _))
  exact Nat.zero_le _
theorem b_le (ty fl st : Int) (l : List UInt8) : (shO ty fl st l).b.length ≤ l.length := by
  rcases sh_ok ty fl st l with h | ⟨sc, cd, sn, e, _⟩
  · exact h.2.2.2.2.2.1
  · rw [e]; exact Nat.zero_le _
theorem o_all2 (ty fl st : Int) (l : List UInt8) : oTy ty fl st ⟨bCells l, true, .cells true⟩ = (shO ty fl st l).y.ty ∧ oSt ty fl st ⟨bCells l, true, .cells true⟩ = (shO ty fl st l).y.st ∧ oE ty fl st ⟨bCells l, true, .cells true⟩ = (shO ty fl st l).y.e ∧ oF ty fl st ⟨bCells l, true, .cells true⟩ = (shO ty fl st l).y.f ∧ oA ty fl st ⟨bCells l, true, .cells true⟩ = (shO ty fl st l).y.a ∧ oCo ty fl st ⟨bCells l, true, .cells true⟩ = (shO ty fl st l).y.co ∧ oLa ty fl st ⟨bCells l, true, .cells true⟩ = (shO ty fl st l).y.la ∧ oMo ty fl st ⟨bCells l, true, .cells true⟩ = (shO ty fl st l).y.mo ∧ oCs ty fl st ⟨bCells l, true, .cells true⟩ = (shO ty fl st l).y.cs ∧ oBn ty fl st ⟨bCells l, true, .cells true⟩ = (shO ty fl st l).b.length ∧ oBc ty fl st ⟨bCells l, true, .cells true⟩ = bCells (shO ty fl st l).b ∧ oSn ty fl st ⟨bCells l, true, .cells true⟩ = (shO ty fl st l).se.length ∧ oSc ty fl st ⟨bCells l, true, .cells true⟩ = gC seC (shO ty fl st l).se ∧ oXs ty fl st ⟨bCells l, true, .cells true⟩ = (shO ty fl st l).sc ∧ oXc ty fl st ⟨bCells l, true, .cells true⟩ = (shO ty fl st l).cd ∧ oXn ty fl st ⟨bCells l, true, .cells true⟩ = (shO ty fl st l).sn := by
  simp only [oTy, oSt, oE, oF, oA, oCo, oLa, oMo, oCs, oBn, oBc, oSn, oSc, oXs, oXc, oXn, dB_mk, and_self]
theorem bTake (l : List UInt8) : List.take l.length (bCells l) = bCells l := List.take_of_length_le (by rw [bCells_len]; omega)
theorem padC_mk (m : List UInt8) : padC ⟨bCells m, true, .cells true⟩ 6 = bCells (pad80 m 6) := by
  unfold padC; rw [dB_mk]; rfl
theorem tkPad (m : List UInt8) (n : Nat) (h : n = m.length) : List.take n (bCells (pad80 m 6)) = bCells m := by
  rw [bCells_take, h]; unfold pad80; rw [List.take_left]
theorem padLen (m : List UInt8) : (pad80 m 6).length = m.length + 80 := by simp [pad80]
theorem inI_mk (m : List UInt8) : inI ⟨bCells (pad80 m 6), true, .cells true⟩ ⟨bCells m, true, .cells true⟩ 6 = true := by
  unfold inI; rw [dB_mk, dB_mk]; exact decide_eq_true rfl
theorem isU8_6 : IsU8 6 := ⟨6, rfl⟩
theorem st_law (ty fl st : Int) (l : List UInt8) (_ : I64 ty) (_ : I64 fl) (_ : I64 st) (hl : l.length ≤ maxLen) : Con Try.prog 4 [.agg ⟨frCy ty fl st 0 l.length⟩] [bRo l] (.bool true) [bRo l] := by
  refine con_vc (E := EtSt) mixed (calls_envT tSt_ok) (lok_envT _ _) (M := mXr) (lm_one Xr_piece) (St_vc ty fl st l) ?_
  have hm : maxLen = 9223372036854775807 := by unfold maxLen; rfl
  simp only [ofNat_eq, toNat_cast, Nat.zero_add, Nat.add_zero, Nat.mul_one, List.drop_zero, bCells_len, bCells_drop, bCells_take, bCells_app, bCells_one, bCells_plain, List.length_replicate, List.length_append, List.length_take, List.length_drop, List.take_length, and_true, true_and, and_self, decide_true, List.length_nil, List.length_cons, Nat.sub_zero, dB_mk, dB_ro, List.take_zero]
  refine br_if (fun h => br_dec (by omega) ?_) (fun h => ?_)
  · have hq : 300 = (l.take 300).length := by rw [List.length_take]; omega
    have hq2 : List.take 300 l = l.take 300 := rfl
    generalize hqq : l.take 300 = q at hq hq2 ⊢
    have b1 := b_le ty fl st q
    have s1 := se_le ty fl st q
    have ib : IsB ⟨bCells q, true, .cells true⟩ 300 := isB_mk _ _ hq
    simp only [padC_mk, tkPad q 300 hq, o_all2, isB_eq, isSe_eq, seTake, bTake, seL, sePl, bCells_plain, bCells_len, padLen, isU8_6, ib, beq_self_eq_true, Bool.and_self, Bool.not_true, br_ff0, Nat.le_refl, and_self, true_and, and_true]
    refine ⟨⟨by omega, by decide⟩, ⟨by omega, by decide⟩, ⟨by omega, by decide⟩, ⟨by omega, by omega⟩, ⟨l, 300, ty, fl, st, pad80 q 6, (shO ty fl st q).y, (shO ty fl st q).b.map (fun x => (x.toNat : Int)), (shO ty fl st q).se⟩, by simp; omega, by rw [padLen]; omega, rfl, rfl, rfl, rfl, rfl, rfl, rfl, rfl, rfl, rfl, rfl, rfl, by simp, rfl, rfl, rfl, rfl, rfl, iC_by _, iC_plain _, rfl, fun _ _ => ⟨⟨by simp only; omega, ?_, by simp only [padLen]; omega, by simp only; omega⟩, ?_⟩⟩
    · show IsB ⟨bCells (List.take 300 l), true, .cells true⟩ 300
      rw [hqq]; exact ib
    · show br (inI ⟨bCells (pad80 q 6), true, .cells true⟩ ⟨bCells (List.take 300 l), true, .cells true⟩ 6) _ _
      rw [hqq, inI_mk]; exact rfl
  · have b1 := b_le ty fl st l
    have s1 := se_le ty fl st l
    simp only [padC_mk, tkPad l l.length rfl, o_all2, isB_eq, isSe_eq, seTake, bTake, seL, sePl, bCells_plain, bCells_len, padLen, isU8_6, beq_self_eq_true, Bool.and_self, Bool.not_true, br_ff0, Nat.le_refl, and_self, true_and, and_true]
    have tl : List.take l.length l = l := List.take_length
    refine ⟨by omega, br_dec (by omega) ⟨⟨by omega, by omega⟩, by omega, ⟨by omega, by omega⟩, ⟨l, l.length, ty, fl, st, pad80 l 6, (shO ty fl st l).y, (shO ty fl st l).b.map (fun x => (x.toNat : Int)), (shO ty fl st l).se⟩, by simp; omega, padLen _, rfl, rfl, rfl, rfl, rfl, rfl, rfl, rfl, rfl, rfl, rfl, rfl, by simp, rfl, rfl, rfl, rfl, rfl, iC_by _, iC_plain _, rfl, fun _ _ => ⟨⟨Nat.le_refl _, ?_, by simp only [padLen]; omega, by simp only; omega⟩, ?_⟩⟩⟩
    · show IsB ⟨bCells (List.take l.length l), true, .cells true⟩ l.length
      rw [tl]; exact isB_mk _ _ rfl
    · show br (inI ⟨bCells (pad80 l 6), true, .cells true⟩ ⟨bCells (List.take l.length l), true, .cells true⟩ 6) _ _
      rw [tl, inI_mk]; exact rfl
end Go.Proofs.Ytagahikocoggcaa.sh
