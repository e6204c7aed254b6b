/- The law: what is left has no field that is for one hop, none that a connection field names, and all others, in order. -/
import Derived.Test.YteodlmfnkjdhhaaSz9
import Derived.Test.YteodlmfnkjdhhaaRows
import Derived.Test.YteodlmfnkjdhhaaLmsHop
import Derived.Test.YteodlmfnkjdhhaaLmsRes
import Derived.Test.YteodlmfnkjdhhaaLlgt15
import Derived.Test.YteodlmfnkjdhhaaLfEnts
import Derived.Test.YteodlmfnkjdhhaaLwit
set_option linter.unusedSimpArgs false
set_option linter.unusedVariables false
namespace Go.Proofs.Yteodlmfnkjdhhaa.tk
open Go Go.Ev Go.Sy Go.RowKit Go.Proofs.Yteodlmfnkjdhhaa.gl
noncomputable def eMsRuns : EntM := entC 3 fun a r => match a, r with
  | [], [] => some (True, .bool true, [])
  | _, _ => none
noncomputable def tHo : List EntM := [eL3, eAlR, eSpR, eLwR, eHop, eSaF, eMsRuns]
noncomputable abbrev EtHo : Env := envT Try.prog tHo
def sSix : List (List UInt8) := [sConn, sPConn, sKeep, sTrEn, sUpg, sTe]
def pA : List Nat := [0, 1, 0, 1, 1, 1, 1, 1]
def pB : List Nat := [0, 1, 0, 1, 1, 1, 1, 1, 1, 1]
def pC : List Nat := [0, 1, 0, 1, 0, 0, 1, 0, 0, 1, 0, 1, 1, 1, 1, 1, 1, 1]
structure GA where
  l : List Fl
  ps : List (List UInt8)
structure StA where
  nm : List (List UInt8)
  i : Nat
def nmA (ps : List (List UInt8)) : List (List UInt8) := sSix ++ ps.map lowerL
def slA (g : GA) (s : StA) : List (Nat × Value) := [(0, .slice (some ⟨0, 0, none⟩) g.l.length 2), (3, .slice (some ⟨1, 0, none⟩) s.nm.length 1), (6, .slice (some ⟨2, 0, none⟩) g.ps.length 1), (8, .int .i64 (s.i : Nat))]
def rlA (g : GA) (s : StA) : List (Nat × Row) := [(0, gRo enF g.l), (1, gOwn enS s.nm), (2, gOwn enS g.ps)]
def wsA (g : GA) : List (Gate (List (List UInt8))) := [⟨.exit 0, fun y => y = nmA g.ps, fun y => [(0, .slice (some ⟨0, 0, none⟩) g.l.length 2), (3, .slice (some ⟨1, 0, none⟩) y.length 1)], fun y => [(0, gRo enF g.l), (1, gOwn enS y)], 2⟩]
def specA : Sy.Spec := specOf 1 3 91 (fun g : GA => g.ps.length ≤ 16777000 ∧ ∀ x ∈ g.ps, x.length ≤ 16777216) (fun g => slA g ⟨sSix, 0⟩) (fun g => rlA g ⟨sSix, 0⟩) wsA
structure GC where
  l : List Fl
  nm : List (List UInt8)
  acc : List Fl
  i : Nat
structure StC where
  b : Bool
  k : Nat
def slC0 (g : GC) (b : Bool) : List (Nat × Value) := [(0, .slice (some ⟨0, 0, none⟩) g.l.length 2), (3, .slice (some ⟨1, 0, none⟩) g.nm.length 1), (9, .slice (some ⟨2, 0, none⟩) g.acc.length 2), (10, .int .i64 (g.i : Nat)), (11, .bool b)]
def slC (g : GC) (s : StC) : List (Nat × Value) := slC0 g s.b ++ [(12, .int .i64 (s.k : Nat))]
def rlC (g : GC) : List (Nat × Row) := [(0, gRo enF g.l), (1, gOwn enS g.nm), (2, gOwn enF g.acc)]
def nOf (g : GC) : List UInt8 := (g.l.getD g.i ⟨[], []⟩).n
def wsC (g : GC) : List (Gate Unit) := [⟨.exit 4, fun _ => True, fun _ => slC0 g (hasL g.nm (nOf g)), fun _ => rlC g, 3⟩]
def specC : Sy.Spec := specOf 1 3 91 (fun g : GC => g.nm.length ≤ 16777216 ∧ g.l.length ≤ 16777000 ∧ g.i < g.l.length) (fun g => slC g ⟨false, 0⟩) rlC wsC
structure GB where
  l : List Fl
  nm : List (List UInt8)
structure StB where
  acc : List Fl
  i : Nat
def keepB (nm : List (List UInt8)) (f : Fl) : Bool := !hasL nm f.n
def slB' (g : GB) (s : StB) : List (Nat × Value) := [(0, .slice (some ⟨0, 0, none⟩) g.l.length 2), (3, .slice (some ⟨1, 0, none⟩) g.nm.length 1), (9, .slice (some ⟨2, 0, none⟩) s.acc.length 2), (10, .int .i64 (s.i : Nat))]
def rlB (g : GB) (s : StB) : List (Nat × Row) := [(0, gRo enF g.l), (1, gOwn enS g.nm), (2, gOwn enF s.acc)]
def wsB (g : GB) : List (Gate Unit) := [⟨.exit 2, fun _ => True, fun _ => [(0, .slice (some ⟨0, 0, none⟩) g.l.length 2), (9, .slice (some ⟨1, 0, none⟩) (g.l.filter (keepB g.nm)).length 2)], fun _ => [(0, gRo enF g.l), (1, gOwn enF (g.l.filter (keepB g.nm)))], 2⟩]
def specB : Sy.Spec := specOf 1 3 91 (fun g : GB => g.nm.length ≤ 16777216 ∧ g.l.length ≤ 16777000) (fun g => slB' g ⟨[], 0⟩) (fun g => rlB g ⟨[], 0⟩) wsB
def mCC := mOf [(6, pC, specC)]
def mHo := mOf [(6, pA, specA), (6, pB, specB)]
theorem A_round (g : GA) (s : StA) (Inv : StA → Prop) (m : StA → Nat) : mev EtHo noM 60 6 (0 :: pA) false (codeOf Try.prog 6 (0 :: pA)) ⟨mkOv (slA g s), 91, []⟩ none ⟨mkR (rlA g s), 3⟩ (roundK 1 3 91 Inv m (slA g) (rlA g) (wsA g) s) =
  (br (decide ((↑s.2 : Int) < Int.ofNat (List.length g.2)))
   (br (decide ((0 : Int) ≤ (↑s.2 : Int) ∧ (↑s.2 : Int) < (↑(List.length g.2) : Int)))
    ((Eq (α := Option Value) ((gC enS g.2)[(0 : Nat) + Int.toNat (↑s.2 : Int) * (1 : Nat)]?) (some (Value.string (cellS (gC enS g.2) ((0 : Nat) + Int.toNat (↑s.2 : Int) * (1 : Nat)))))) ∧
    ((((True ∧ True) ∧ (True ∧ (True ∧ List.length (L (cellS (gC enS g.2) ((0 : Nat) + Int.toNat (↑s.2 : Int) * (1 : Nat)))) ≤ (9223372036854775807 : Nat))))) ∧
    (br (decide (List.length s.1 + (1 : Nat) ≤ (16777216 : Nat)))
     (br (decide ((0 : Nat) + List.length s.1 * (1 : Nat) ≤ List.length (gC enS s.1)))
      (∃ j : StA, ((Inv j) ∧
      ((m j < m s) ∧
      (((0 : Nat) = (0 : Nat)) ∧
      ((List.length g.1 = List.length g.1) ∧
      (((0 : Nat) = (0 : Nat)) ∧
      ((List.length j.1 = List.length s.1 + (1 : Nat)) ∧
      (((0 : Nat) = (0 : Nat)) ∧
      ((List.length g.2 = List.length g.2) ∧
      (((↑j.2 : Int) = IntKind.wrap IntKind.i64 ((↑s.2 : Int) + (1 : Int))) ∧
      ((Eq (α := List Value) (gC enF g.1) (gC enF g.1)) ∧
      ((Plain (gC enF g.1)) ∧
      ((Eq (α := List Value) (gC enS j.1) (List.take (List.length s.1 * (1 : Nat)) (List.drop (0 : Nat) (gC enS s.1)) ++ [Value.string (lowS (cellS (gC enS g.2) ((0 : Nat) + Int.toNat (↑s.2 : Int) * (1 : Nat))))])) ∧
      ((Plain (gC enS j.1)) ∧
      ((Eq (α := List Value) (gC enS g.2) (gC enS g.2)) ∧
      ((Plain (gC enS g.2)) ∧
      True))))))))))))))))
      False)
     False)))
    False)
   (∃ y : List (List UInt8), ((Eq (α := List (List UInt8)) (y) ([(99 : UInt8), (111 : UInt8), (110 : UInt8), (110 : UInt8), (101 : UInt8), (99 : UInt8), (116 : UInt8), (105 : UInt8), (111 : UInt8), (110 : UInt8)] :: [(112 : UInt8), (114 : UInt8), (111 : UInt8), (120 : UInt8), (121 : UInt8), (45 : UInt8), (99 : UInt8), (111 : UInt8), (110 : UInt8), (110 : UInt8), (101 : UInt8), (99 : UInt8), (116 : UInt8), (105 : UInt8), (111 : UInt8), (110 : UInt8)] :: [(107 : UInt8), (101 : UInt8), (101 : UInt8), (112 : UInt8), (45 : UInt8), (97 : UInt8), (108 : UInt8), (105 : UInt8), (118 : UInt8), (101 : UInt8)] :: [(116 : UInt8), (114 : UInt8), (97 : UInt8), (110 : UInt8), (115 : UInt8), (102 : UInt8), (101 : UInt8), (114 : UInt8), (45 : UInt8), (101 : UInt8), (110 : UInt8), (99 : UInt8), (111 : UInt8), (100 : UInt8), (105 : UInt8), (110 : UInt8), (103 : UInt8)] :: [(117 : UInt8), (112 : UInt8), (103 : UInt8), (114 : UInt8), (97 : UInt8), (100 : UInt8), (101 : UInt8)] :: [(116 : UInt8), (101 : UInt8)] :: ([] ++ List.map lowerL g.2))) ∧
   (((0 : Nat) = (0 : Nat)) ∧
   ((List.length g.1 = List.length g.1) ∧
   (((0 : Nat) = (0 : Nat)) ∧
   ((List.length y = List.length s.1) ∧
   ((Eq (α := List Value) (gC enF g.1) (gC enF g.1)) ∧
   ((Plain (gC enF g.1)) ∧
   ((Eq (α := List Value) (gC enS y) (gC enS s.1)) ∧
   ((Plain (gC enS y)) ∧
   True))))))))))) := by kernel_rfl
theorem C_round (g : GC) (s : StC) (Inv : StC → Prop) (m : StC → Nat) : mev EtHo noM 60 6 (0 :: pC) false (codeOf Try.prog 6 (0 :: pC)) ⟨mkOv (slC g s), 91, []⟩ none ⟨mkR (rlC g), 3⟩ (roundK 1 3 91 Inv m (slC g) (fun _ => rlC g) (wsC g) s) =
  (br (decide ((↑s.2 : Int) < Int.ofNat (List.length g.2)))
   (br (s.1)
    (∃ j : StC, ((Inv j) ∧
    ((m j < m s) ∧
    (((0 : Nat) = (0 : Nat)) ∧
    ((List.length g.1 = List.length g.1) ∧
    (((0 : Nat) = (0 : Nat)) ∧
    ((List.length g.2 = List.length g.2) ∧
    (((0 : Nat) = (0 : Nat)) ∧
    ((List.length g.3 = List.length g.3) ∧
    (((↑g.4 : Int) = (↑g.4 : Int)) ∧
    ((j.1 = true) ∧
    (((↑j.2 : Int) = IntKind.wrap IntKind.i64 ((↑s.2 : Int) + (1 : Int))) ∧
    ((Eq (α := List Value) (gC enF g.1) (gC enF g.1)) ∧
    ((Plain (gC enF g.1)) ∧
    ((Eq (α := List Value) (gC enS g.2) (gC enS g.2)) ∧
    ((Plain (gC enS g.2)) ∧
    ((Eq (α := List Value) (gC enF g.3) (gC enF g.3)) ∧
    ((Plain (gC enF g.3)) ∧
    True))))))))))))))))))
    (br (decide ((0 : Int) ≤ (↑s.2 : Int) ∧ (↑s.2 : Int) < (↑(List.length g.2) : Int)))
     ((Eq (α := Option Value) ((gC enS g.2)[(0 : Nat) + Int.toNat (↑s.2 : Int) * (1 : Nat)]?) (some (Value.string (cellS (gC enS g.2) ((0 : Nat) + Int.toNat (↑s.2 : Int) * (1 : Nat)))))) ∧
     (br (decide ((0 : Int) ≤ (↑g.4 : Int) ∧ (↑g.4 : Int) < (↑(List.length g.1) : Int)))
      ((Eq (α := Option Value) ((gC enF g.1)[(0 : Nat) + Int.toNat (↑g.4 : Int) * (2 : Nat) + (0 : Nat)]?) (some (Value.string (cellS (gC enF g.1) ((0 : Nat) + Int.toNat (↑g.4 : Int) * (2 : Nat) + (0 : Nat)))))) ∧
      ((Eq (α := Option Value) ((gC enS g.2)[(0 : Nat) + Int.toNat (↑s.2 : Int) * (1 : Nat)]?) (some (Value.string (cellS (gC enS g.2) ((0 : Nat) + Int.toNat (↑s.2 : Int) * (1 : Nat)))))) ∧
      ((Value.string (cellS (gC enS g.2) ((0 : Nat) + Int.toNat (↑s.2 : Int) * (1 : Nat))) = Value.string (cellS (gC enS g.2) ((0 : Nat) + Int.toNat (↑s.2 : Int) * (1 : Nat)))) ∧
      ((Eq (α := Option Value) ((gC enF g.1)[(0 : Nat) + Int.toNat (↑g.4 : Int) * (2 : Nat) + (0 : Nat)]?) (some (Value.string (cellS (gC enF g.1) ((0 : Nat) + Int.toNat (↑g.4 : Int) * (2 : Nat) + (0 : Nat)))))) ∧
      ((Value.string (cellS (gC enF g.1) ((0 : Nat) + Int.toNat (↑g.4 : Int) * (2 : Nat) + (0 : Nat))) = Value.string (cellS (gC enF g.1) ((0 : Nat) + Int.toNat (↑g.4 : Int) * (2 : Nat) + (0 : Nat)))) ∧
      (∃ j : StC, ((Inv j) ∧
      ((m j < m s) ∧
      (((0 : Nat) = (0 : Nat)) ∧
      ((List.length g.1 = List.length g.1) ∧
      (((0 : Nat) = (0 : Nat)) ∧
      ((List.length g.2 = List.length g.2) ∧
      (((0 : Nat) = (0 : Nat)) ∧
      ((List.length g.3 = List.length g.3) ∧
      (((↑g.4 : Int) = (↑g.4 : Int)) ∧
      ((j.1 = strEq (cellS (gC enS g.2) ((0 : Nat) + Int.toNat (↑s.2 : Int) * (1 : Nat))) (cellS (gC enF g.1) ((0 : Nat) + Int.toNat (↑g.4 : Int) * (2 : Nat) + (0 : Nat)))) ∧
      (((↑j.2 : Int) = IntKind.wrap IntKind.i64 ((↑s.2 : Int) + (1 : Int))) ∧
      ((Eq (α := List Value) (gC enF g.1) (gC enF g.1)) ∧
      ((Plain (gC enF g.1)) ∧
      ((Eq (α := List Value) (gC enS g.2) (gC enS g.2)) ∧
      ((Plain (gC enS g.2)) ∧
      ((Eq (α := List Value) (gC enF g.3) (gC enF g.3)) ∧
      ((Plain (gC enF g.3)) ∧
      True)))))))))))))))))))))))
      False))
     False))
   (∃ y : Unit, ((True) ∧
   (((0 : Nat) = (0 : Nat)) ∧
   ((List.length g.1 = List.length g.1) ∧
   (((0 : Nat) = (0 : Nat)) ∧
   ((List.length g.2 = List.length g.2) ∧
   (((0 : Nat) = (0 : Nat)) ∧
   ((List.length g.3 = List.length g.3) ∧
   (((↑g.4 : Int) = (↑g.4 : Int)) ∧
   ((hasL g.2 (nOf g) = s.1) ∧
   ((Eq (α := List Value) (gC enF g.1) (gC enF g.1)) ∧
   ((Plain (gC enF g.1)) ∧
   ((Eq (α := List Value) (gC enS g.2) (gC enS g.2)) ∧
   ((Plain (gC enS g.2)) ∧
   ((Eq (α := List Value) (gC enF g.3) (gC enF g.3)) ∧
   ((Plain (gC enF g.3)) ∧
   True))))))))))))))))) := by kernel_rfl
theorem B_round (g : GB) (s : StB) (Inv : StB → Prop) (m : StB → Nat) : mev EtHo mCC 60 6 (0 :: pB) false (codeOf Try.prog 6 (0 :: pB)) ⟨mkOv (slB' g s), 91, []⟩ none ⟨mkR (rlB g s), 3⟩ (roundK 1 3 91 Inv m (slB' g) (rlB g) (wsB g) s) =
  (br (decide ((↑s.2 : Int) < Int.ofNat (List.length g.1)))
   (∃ g2 : GC, ((List.length g2.2 ≤ (16777216 : Nat) ∧ List.length g2.1 ≤ (16777000 : Nat) ∧ g2.4 < List.length g2.1) ∧
   (((0 : Nat) = (0 : Nat)) ∧
   ((List.length g2.1 = List.length g.1) ∧
   (((0 : Nat) = (0 : Nat)) ∧
   ((List.length g2.2 = List.length g.2) ∧
   (((0 : Nat) = (0 : Nat)) ∧
   ((List.length g2.3 = List.length s.1) ∧
   (((↑g2.4 : Int) = (↑s.2 : Int)) ∧
   ((false = false) ∧
   (((0 : Int) = (0 : Int)) ∧
   ((Eq (α := List Value) (gC enF g2.1) (gC enF g.1)) ∧
   ((Plain (gC enF g2.1)) ∧
   ((Eq (α := List Value) (gC enS g2.2) (gC enS g.2)) ∧
   ((Plain (gC enS g2.2)) ∧
   ((Eq (α := List Value) (gC enF g2.3) (gC enF s.1)) ∧
   ((Plain (gC enF g2.3)) ∧
   (∀ (y : Unit), ((True) →
   (br (!hasL g2.2 (nOf g2))
    (br (decide ((0 : Int) ≤ (↑g2.4 : Int) ∧ (↑g2.4 : Int) < (↑(List.length g2.1) : Int)))
     ((Eq (α := Option Value) ((gC enF g2.1)[(0 : Nat) + Int.toNat (↑g2.4 : Int) * (2 : Nat)]?) (some (Value.string (cellS (gC enF g2.1) ((0 : Nat) + Int.toNat (↑g2.4 : Int) * (2 : Nat)))))) ∧
     ((Eq (α := Option Value) ((gC enF g2.1)[(0 : Nat) + Int.toNat (↑g2.4 : Int) * (2 : Nat) + (1 : Nat)]?) (some (Value.string (cellS (gC enF g2.1) ((0 : Nat) + Int.toNat (↑g2.4 : Int) * (2 : Nat) + (1 : Nat)))))) ∧
     (br (decide (List.length g2.3 + (1 : Nat) ≤ (16777216 : Nat)))
      (br (decide ((0 : Nat) + List.length g2.3 * (2 : Nat) ≤ List.length (gC enF g2.3)))
       (∃ j : StB, ((Inv j) ∧
       ((m j < m s) ∧
       (((0 : Nat) = (0 : Nat)) ∧
       ((List.length g.1 = List.length g2.1) ∧
       (((0 : Nat) = (0 : Nat)) ∧
       ((List.length g.2 = List.length g2.2) ∧
       (((0 : Nat) = (0 : Nat)) ∧
       ((List.length j.1 = List.length g2.3 + (1 : Nat)) ∧
       (((↑j.2 : Int) = IntKind.wrap IntKind.i64 ((↑g2.4 : Int) + (1 : Int))) ∧
       ((Eq (α := List Value) (gC enF g.1) (gC enF g2.1)) ∧
       ((Plain (gC enF g.1)) ∧
       ((Eq (α := List Value) (gC enS g.2) (gC enS g2.2)) ∧
       ((Plain (gC enS g.2)) ∧
       ((Eq (α := List Value) (gC enF j.1) (List.take (List.length g2.3 * (2 : Nat)) (List.drop (0 : Nat) (gC enF g2.3)) ++ [Value.string (cellS (gC enF g2.1) ((0 : Nat) + Int.toNat (↑g2.4 : Int) * (2 : Nat))), Value.string (cellS (gC enF g2.1) ((0 : Nat) + Int.toNat (↑g2.4 : Int) * (2 : Nat) + (1 : Nat)))])) ∧
       ((Plain (gC enF j.1)) ∧
       True))))))))))))))))
       False)
      False)))
     False)
    (∃ j : StB, ((Inv j) ∧
    ((m j < m s) ∧
    (((0 : Nat) = (0 : Nat)) ∧
    ((List.length g.1 = List.length g2.1) ∧
    (((0 : Nat) = (0 : Nat)) ∧
    ((List.length g.2 = List.length g2.2) ∧
    (((0 : Nat) = (0 : Nat)) ∧
    ((List.length j.1 = List.length g2.3) ∧
    (((↑j.2 : Int) = IntKind.wrap IntKind.i64 ((↑g2.4 : Int) + (1 : Int))) ∧
    ((Eq (α := List Value) (gC enF g.1) (gC enF g2.1)) ∧
    ((Plain (gC enF g.1)) ∧
    ((Eq (α := List Value) (gC enS g.2) (gC enS g2.2)) ∧
    ((Plain (gC enS g.2)) ∧
    ((Eq (α := List Value) (gC enF j.1) (gC enF g2.3)) ∧
    ((Plain (gC enF j.1)) ∧
    True))))))))))))))))))))))))))))))))))))
   (∃ y : Unit, ((True) ∧
   (((0 : Nat) = (0 : Nat)) ∧
   ((List.length g.1 = List.length g.1) ∧
   (((0 : Nat) = (0 : Nat)) ∧
   ((List.length (List.filter (keepB (GB.nm g)) g.1) = List.length s.1) ∧
   ((Eq (α := List Value) (gC enF g.1) (gC enF g.1)) ∧
   ((Plain (gC enF g.1)) ∧
   ((Eq (α := List Value) (gC enF (List.filter (keepB (GB.nm g)) g.1)) (gC enF s.1)) ∧
   ((Plain (gC enF (List.filter (keepB (GB.nm g)) g.1))) ∧
   True))))))))))) := by kernel_rfl
theorem Ho_vc (l : List Fl) : mcall EtHo mHo 60 6 [.slice (some ⟨0, 0, none⟩) l.length 2] ⟨mkR (nums 0 [gRo enF l]), 1⟩ (retIs 1 (.bool true) [gRo enF l]) =
  ((((((0 : Nat) + List.length l * (2 : Nat) ≤ List.length (gC enF l) ∧ Plain (List.take (List.length l * (2 : Nat)) (List.drop (0 : Nat) (gC enF l)))) ∧ True) ∧ ((True ∧ True) ∧ (True ∧ (IsF (Row.mk (List.take (List.length l * (2 : Nat)) (List.drop (0 : Nat) (gC enF l))) true (Ob.cells true)) (List.length l) ∧ (List.length l ≤ (1048576 : Nat) ∧ ShR (Row.mk (List.take (List.length l * (2 : Nat)) (List.drop (0 : Nat) (gC enF l))) true (Ob.cells true)))))))) ∧
  (br (!lg3R (Row.mk (List.take (List.length l * (2 : Nat)) (List.drop (0 : Nat) (gC enF l))) true (Ob.cells true)))
   (((True ∧ (True ∧ (True ∧ True)))) ∧
   ((true = true) ∧
   ((Eq (α := List Value) (gC enF l) (gC enF l)) ∧
   ((Plain (gC enF l)) ∧
   True))))
   ((((((0 : Nat) + List.length l * (2 : Nat) ≤ List.length (gC enF l) ∧ Plain (List.take (List.length l * (2 : Nat)) (List.drop (0 : Nat) (gC enF l)))) ∧ (True ∧ True)) ∧ ((True ∧ True) ∧ (True ∧ (IsF (Row.mk (List.take (List.length l * (2 : Nat)) (List.drop (0 : Nat) (gC enF l))) true (Ob.cells true)) (List.length l) ∧ (List.length l ≤ (9223372036854775807 : Nat) ∧ alB (Row.mk (List.take (List.length l * (2 : Nat)) (List.drop (0 : Nat) (gC enF l))) true (Ob.cells true)) (ByteArray.mk #[(99 : UInt8), (111 : UInt8), (110 : UInt8), (110 : UInt8), (101 : UInt8), (99 : UInt8), (116 : UInt8), (105 : UInt8), (111 : UInt8), (110 : UInt8)]) ≤ (16777216 : Nat))))))) ∧
   ((((True ∧ True) ∧ (True ∧ ((Plain (elC (alV (Row.mk (List.take (List.length l * (2 : Nat)) (List.drop (0 : Nat) (gC enF l))) true (Ob.cells true)) (ByteArray.mk #[(99 : UInt8), (111 : UInt8), (110 : UInt8), (110 : UInt8), (101 : UInt8), (99 : UInt8), (116 : UInt8), (105 : UInt8), (111 : UInt8), (110 : UInt8)]))) ∧ True) ∧ List.length (L (alV (Row.mk (List.take (List.length l * (2 : Nat)) (List.drop (0 : Nat) (gC enF l))) true (Ob.cells true)) (ByteArray.mk #[(99 : UInt8), (111 : UInt8), (110 : UInt8), (110 : UInt8), (101 : UInt8), (99 : UInt8), (116 : UInt8), (105 : UInt8), (111 : UInt8), (110 : UInt8)]))) ≤ (16777000 : Nat))))) ∧
   (∃ g : GA, ((List.length g.2 ≤ (16777000 : Nat) ∧ ∀ (x : List UInt8), x ∈ GA.ps g → List.length x ≤ (16777216 : Nat)) ∧
   (((0 : Nat) = (0 : Nat)) ∧
   ((List.length g.1 = List.length l) ∧
   (((0 : Nat) = (0 : Nat)) ∧
   (((6 : Nat) = (6 : Nat)) ∧
   (((0 : Nat) = (0 : Nat)) ∧
   ((List.length g.2 = elN (alV (Row.mk (List.take (List.length l * (2 : Nat)) (List.drop (0 : Nat) (gC enF l))) true (Ob.cells true)) (ByteArray.mk #[(99 : UInt8), (111 : UInt8), (110 : UInt8), (110 : UInt8), (101 : UInt8), (99 : UInt8), (116 : UInt8), (105 : UInt8), (111 : UInt8), (110 : UInt8)]))) ∧
   (((0 : Int) = (0 : Int)) ∧
   ((Eq (α := List Value) (gC enF g.1) (gC enF l)) ∧
   ((Plain (gC enF g.1)) ∧
   ((Eq (α := List Value) ([Value.string (bs sConn), Value.string (bs sPConn), Value.string (bs sKeep), Value.string (bs sTrEn), Value.string (bs sUpg), Value.string (bs sTe)]) ([Value.string (ByteArray.mk #[(99 : UInt8), (111 : UInt8), (110 : UInt8), (110 : UInt8), (101 : UInt8), (99 : UInt8), (116 : UInt8), (105 : UInt8), (111 : UInt8), (110 : UInt8)]), Value.string (ByteArray.mk #[(112 : UInt8), (114 : UInt8), (111 : UInt8), (120 : UInt8), (121 : UInt8), (45 : UInt8), (99 : UInt8), (111 : UInt8), (110 : UInt8), (110 : UInt8), (101 : UInt8), (99 : UInt8), (116 : UInt8), (105 : UInt8), (111 : UInt8), (110 : UInt8)]), Value.string (ByteArray.mk #[(107 : UInt8), (101 : UInt8), (101 : UInt8), (112 : UInt8), (45 : UInt8), (97 : UInt8), (108 : UInt8), (105 : UInt8), (118 : UInt8), (101 : UInt8)]), Value.string (ByteArray.mk #[(116 : UInt8), (114 : UInt8), (97 : UInt8), (110 : UInt8), (115 : UInt8), (102 : UInt8), (101 : UInt8), (114 : UInt8), (45 : UInt8), (101 : UInt8), (110 : UInt8), (99 : UInt8), (111 : UInt8), (100 : UInt8), (105 : UInt8), (110 : UInt8), (103 : UInt8)]), Value.string (ByteArray.mk #[(117 : UInt8), (112 : UInt8), (103 : UInt8), (114 : UInt8), (97 : UInt8), (100 : UInt8), (101 : UInt8)]), Value.string (ByteArray.mk #[(116 : UInt8), (101 : UInt8)])])) ∧
   ((Plain (gC enS (StA.nm (StA.mk sSix (0 : Nat))))) ∧
   ((Eq (α := List Value) (gC enS g.2) (elC (alV (Row.mk (List.take (List.length l * (2 : Nat)) (List.drop (0 : Nat) (gC enF l))) true (Ob.cells true)) (ByteArray.mk #[(99 : UInt8), (111 : UInt8), (110 : UInt8), (110 : UInt8), (101 : UInt8), (99 : UInt8), (116 : UInt8), (105 : UInt8), (111 : UInt8), (110 : UInt8)])))) ∧
   ((Plain (gC enS g.2)) ∧
   (∀ (y : List (List UInt8)), ((y = [(99 : UInt8), (111 : UInt8), (110 : UInt8), (110 : UInt8), (101 : UInt8), (99 : UInt8), (116 : UInt8), (105 : UInt8), (111 : UInt8), (110 : UInt8)] :: [(112 : UInt8), (114 : UInt8), (111 : UInt8), (120 : UInt8), (121 : UInt8), (45 : UInt8), (99 : UInt8), (111 : UInt8), (110 : UInt8), (110 : UInt8), (101 : UInt8), (99 : UInt8), (116 : UInt8), (105 : UInt8), (111 : UInt8), (110 : UInt8)] :: [(107 : UInt8), (101 : UInt8), (101 : UInt8), (112 : UInt8), (45 : UInt8), (97 : UInt8), (108 : UInt8), (105 : UInt8), (118 : UInt8), (101 : UInt8)] :: [(116 : UInt8), (114 : UInt8), (97 : UInt8), (110 : UInt8), (115 : UInt8), (102 : UInt8), (101 : UInt8), (114 : UInt8), (45 : UInt8), (101 : UInt8), (110 : UInt8), (99 : UInt8), (111 : UInt8), (100 : UInt8), (105 : UInt8), (110 : UInt8), (103 : UInt8)] :: [(117 : UInt8), (112 : UInt8), (103 : UInt8), (114 : UInt8), (97 : UInt8), (100 : UInt8), (101 : UInt8)] :: [(116 : UInt8), (101 : UInt8)] :: ([] ++ List.map lowerL g.2)) →
   (∃ g2 : GB, ((List.length g2.2 ≤ (16777216 : Nat) ∧ List.length g2.1 ≤ (16777000 : Nat)) ∧
   (((0 : Nat) = (0 : Nat)) ∧
   ((List.length g2.1 = List.length g.1) ∧
   (((0 : Nat) = (0 : Nat)) ∧
   ((List.length g2.2 = List.length y) ∧
   (((0 : Nat) = (0 : Nat)) ∧
   (((0 : Int) = (0 : Int)) ∧
   ((Eq (α := List Value) (gC enF g2.1) (gC enF g.1)) ∧
   ((Plain (gC enF g2.1)) ∧
   ((Eq (α := List Value) (gC enS g2.2) (gC enS y)) ∧
   ((Plain (gC enS g2.2)) ∧
   ((Eq (α := List Value) ([]) ([])) ∧
   (∀ (y2 : Unit), ((True) →
   ((((((0 : Nat) + List.length g2.1 * (2 : Nat) ≤ List.length (gC enF g2.1) ∧ Plain (List.take (List.length g2.1 * (2 : Nat)) (List.drop (0 : Nat) (gC enF g2.1)))) ∧ True) ∧ ((True ∧ True) ∧ ((Plain (hpC (Row.mk (List.take (List.length g2.1 * (2 : Nat)) (List.drop (0 : Nat) (gC enF g2.1))) true (Ob.cells true))) ∧ True) ∧ (IsF (Row.mk (List.take (List.length g2.1 * (2 : Nat)) (List.drop (0 : Nat) (gC enF g2.1))) true (Ob.cells true)) (List.length g2.1) ∧ (List.length g2.1 ≤ (16777000 : Nat) ∧ hpB (Row.mk (List.take (List.length g2.1 * (2 : Nat)) (List.drop (0 : Nat) (gC enF g2.1))) true (Ob.cells true)) ≤ (16777000 : Nat))))))) ∧
   ((((((0 : Nat) + hpK (Row.mk (List.take (List.length g2.1 * (2 : Nat)) (List.drop (0 : Nat) (gC enF g2.1))) true (Ob.cells true)) * (2 : Nat) ≤ List.length (hpC (Row.mk (List.take (List.length g2.1 * (2 : Nat)) (List.drop (0 : Nat) (gC enF g2.1))) true (Ob.cells true))) ∧ Plain (List.take (hpK (Row.mk (List.take (List.length g2.1 * (2 : Nat)) (List.drop (0 : Nat) (gC enF g2.1))) true (Ob.cells true)) * (2 : Nat)) (List.drop (0 : Nat) (hpC (Row.mk (List.take (List.length g2.1 * (2 : Nat)) (List.drop (0 : Nat) (gC enF g2.1))) true (Ob.cells true)))))) ∧ (((0 : Nat) + List.length (List.filter (keepB (GB.nm g2)) g2.1) * (2 : Nat) ≤ List.length (gC enF (List.filter (keepB (GB.nm g2)) g2.1)) ∧ Plain (List.take (List.length (List.filter (keepB (GB.nm g2)) g2.1) * (2 : Nat)) (List.drop (0 : Nat) (gC enF (List.filter (keepB (GB.nm g2)) g2.1))))) ∧ True)) ∧ ((True ∧ (True ∧ True)) ∧ (True ∧ (IsF (Row.mk (List.take (hpK (Row.mk (List.take (List.length g2.1 * (2 : Nat)) (List.drop (0 : Nat) (gC enF g2.1))) true (Ob.cells true)) * (2 : Nat)) (List.drop (0 : Nat) (hpC (Row.mk (List.take (List.length g2.1 * (2 : Nat)) (List.drop (0 : Nat) (gC enF g2.1))) true (Ob.cells true))))) true (Ob.cells true)) (hpK (Row.mk (List.take (List.length g2.1 * (2 : Nat)) (List.drop (0 : Nat) (gC enF g2.1))) true (Ob.cells true))) ∧ (IsF (Row.mk (List.take (List.length (List.filter (keepB (GB.nm g2)) g2.1) * (2 : Nat)) (List.drop (0 : Nat) (gC enF (List.filter (keepB (GB.nm g2)) g2.1)))) true (Ob.cells true)) (List.length (List.filter (keepB (GB.nm g2)) g2.1)) ∧ hpK (Row.mk (List.take (List.length g2.1 * (2 : Nat)) (List.drop (0 : Nat) (gC enF g2.1))) true (Ob.cells true)) ≤ (9223372036854775807 : Nat))))))) ∧
   (br (saB (Row.mk (List.take (hpK (Row.mk (List.take (List.length g2.1 * (2 : Nat)) (List.drop (0 : Nat) (gC enF g2.1))) true (Ob.cells true)) * (2 : Nat)) (List.drop (0 : Nat) (hpC (Row.mk (List.take (List.length g2.1 * (2 : Nat)) (List.drop (0 : Nat) (gC enF g2.1))) true (Ob.cells true))))) true (Ob.cells true)) (Row.mk (List.take (List.length (List.filter (keepB (GB.nm g2)) g2.1) * (2 : Nat)) (List.drop (0 : Nat) (gC enF (List.filter (keepB (GB.nm g2)) g2.1)))) true (Ob.cells true)))
    ((((((0 : Nat) + hpK (Row.mk (List.take (List.length g2.1 * (2 : Nat)) (List.drop (0 : Nat) (gC enF g2.1))) true (Ob.cells true)) * (2 : Nat) ≤ List.length (hpC (Row.mk (List.take (List.length g2.1 * (2 : Nat)) (List.drop (0 : Nat) (gC enF g2.1))) true (Ob.cells true))) ∧ Plain (List.take (hpK (Row.mk (List.take (List.length g2.1 * (2 : Nat)) (List.drop (0 : Nat) (gC enF g2.1))) true (Ob.cells true)) * (2 : Nat)) (List.drop (0 : Nat) (hpC (Row.mk (List.take (List.length g2.1 * (2 : Nat)) (List.drop (0 : Nat) (gC enF g2.1))) true (Ob.cells true)))))) ∧ True) ∧ ((True ∧ True) ∧ ((Plain (hpC (Row.mk (List.take (hpK (Row.mk (List.take (List.length g2.1 * (2 : Nat)) (List.drop (0 : Nat) (gC enF g2.1))) true (Ob.cells true)) * (2 : Nat)) (List.drop (0 : Nat) (hpC (Row.mk (List.take (List.length g2.1 * (2 : Nat)) (List.drop (0 : Nat) (gC enF g2.1))) true (Ob.cells true))))) true (Ob.cells true))) ∧ True) ∧ (IsF (Row.mk (List.take (hpK (Row.mk (List.take (List.length g2.1 * (2 : Nat)) (List.drop (0 : Nat) (gC enF g2.1))) true (Ob.cells true)) * (2 : Nat)) (List.drop (0 : Nat) (hpC (Row.mk (List.take (List.length g2.1 * (2 : Nat)) (List.drop (0 : Nat) (gC enF g2.1))) true (Ob.cells true))))) true (Ob.cells true)) (hpK (Row.mk (List.take (List.length g2.1 * (2 : Nat)) (List.drop (0 : Nat) (gC enF g2.1))) true (Ob.cells true))) ∧ (hpK (Row.mk (List.take (List.length g2.1 * (2 : Nat)) (List.drop (0 : Nat) (gC enF g2.1))) true (Ob.cells true)) ≤ (16777000 : Nat) ∧ hpB (Row.mk (List.take (hpK (Row.mk (List.take (List.length g2.1 * (2 : Nat)) (List.drop (0 : Nat) (gC enF g2.1))) true (Ob.cells true)) * (2 : Nat)) (List.drop (0 : Nat) (hpC (Row.mk (List.take (List.length g2.1 * (2 : Nat)) (List.drop (0 : Nat) (gC enF g2.1))) true (Ob.cells true))))) true (Ob.cells true)) ≤ (16777000 : Nat))))))) ∧
    ((((((0 : Nat) + hpK (Row.mk (List.take (hpK (Row.mk (List.take (List.length g2.1 * (2 : Nat)) (List.drop (0 : Nat) (gC enF g2.1))) true (Ob.cells true)) * (2 : Nat)) (List.drop (0 : Nat) (hpC (Row.mk (List.take (List.length g2.1 * (2 : Nat)) (List.drop (0 : Nat) (gC enF g2.1))) true (Ob.cells true))))) true (Ob.cells true)) * (2 : Nat) ≤ List.length (hpC (Row.mk (List.take (hpK (Row.mk (List.take (List.length g2.1 * (2 : Nat)) (List.drop (0 : Nat) (gC enF g2.1))) true (Ob.cells true)) * (2 : Nat)) (List.drop (0 : Nat) (hpC (Row.mk (List.take (List.length g2.1 * (2 : Nat)) (List.drop (0 : Nat) (gC enF g2.1))) true (Ob.cells true))))) true (Ob.cells true))) ∧ Plain (List.take (hpK (Row.mk (List.take (hpK (Row.mk (List.take (List.length g2.1 * (2 : Nat)) (List.drop (0 : Nat) (gC enF g2.1))) true (Ob.cells true)) * (2 : Nat)) (List.drop (0 : Nat) (hpC (Row.mk (List.take (List.length g2.1 * (2 : Nat)) (List.drop (0 : Nat) (gC enF g2.1))) true (Ob.cells true))))) true (Ob.cells true)) * (2 : Nat)) (List.drop (0 : Nat) (hpC (Row.mk (List.take (hpK (Row.mk (List.take (List.length g2.1 * (2 : Nat)) (List.drop (0 : Nat) (gC enF g2.1))) true (Ob.cells true)) * (2 : Nat)) (List.drop (0 : Nat) (hpC (Row.mk (List.take (List.length g2.1 * (2 : Nat)) (List.drop (0 : Nat) (gC enF g2.1))) true (Ob.cells true))))) true (Ob.cells true)))))) ∧ (((0 : Nat) + hpK (Row.mk (List.take (List.length g2.1 * (2 : Nat)) (List.drop (0 : Nat) (gC enF g2.1))) true (Ob.cells true)) * (2 : Nat) ≤ List.length (hpC (Row.mk (List.take (List.length g2.1 * (2 : Nat)) (List.drop (0 : Nat) (gC enF g2.1))) true (Ob.cells true))) ∧ Plain (List.take (hpK (Row.mk (List.take (List.length g2.1 * (2 : Nat)) (List.drop (0 : Nat) (gC enF g2.1))) true (Ob.cells true)) * (2 : Nat)) (List.drop (0 : Nat) (hpC (Row.mk (List.take (List.length g2.1 * (2 : Nat)) (List.drop (0 : Nat) (gC enF g2.1))) true (Ob.cells true)))))) ∧ True)) ∧ ((True ∧ (True ∧ True)) ∧ (True ∧ (IsF (Row.mk (List.take (hpK (Row.mk (List.take (hpK (Row.mk (List.take (List.length g2.1 * (2 : Nat)) (List.drop (0 : Nat) (gC enF g2.1))) true (Ob.cells true)) * (2 : Nat)) (List.drop (0 : Nat) (hpC (Row.mk (List.take (List.length g2.1 * (2 : Nat)) (List.drop (0 : Nat) (gC enF g2.1))) true (Ob.cells true))))) true (Ob.cells true)) * (2 : Nat)) (List.drop (0 : Nat) (hpC (Row.mk (List.take (hpK (Row.mk (List.take (List.length g2.1 * (2 : Nat)) (List.drop (0 : Nat) (gC enF g2.1))) true (Ob.cells true)) * (2 : Nat)) (List.drop (0 : Nat) (hpC (Row.mk (List.take (List.length g2.1 * (2 : Nat)) (List.drop (0 : Nat) (gC enF g2.1))) true (Ob.cells true))))) true (Ob.cells true))))) true (Ob.cells true)) (hpK (Row.mk (List.take (hpK (Row.mk (List.take (List.length g2.1 * (2 : Nat)) (List.drop (0 : Nat) (gC enF g2.1))) true (Ob.cells true)) * (2 : Nat)) (List.drop (0 : Nat) (hpC (Row.mk (List.take (List.length g2.1 * (2 : Nat)) (List.drop (0 : Nat) (gC enF g2.1))) true (Ob.cells true))))) true (Ob.cells true))) ∧ (IsF (Row.mk (List.take (hpK (Row.mk (List.take (List.length g2.1 * (2 : Nat)) (List.drop (0 : Nat) (gC enF g2.1))) true (Ob.cells true)) * (2 : Nat)) (List.drop (0 : Nat) (hpC (Row.mk (List.take (List.length g2.1 * (2 : Nat)) (List.drop (0 : Nat) (gC enF g2.1))) true (Ob.cells true))))) true (Ob.cells true)) (hpK (Row.mk (List.take (List.length g2.1 * (2 : Nat)) (List.drop (0 : Nat) (gC enF g2.1))) true (Ob.cells true))) ∧ hpK (Row.mk (List.take (hpK (Row.mk (List.take (List.length g2.1 * (2 : Nat)) (List.drop (0 : Nat) (gC enF g2.1))) true (Ob.cells true)) * (2 : Nat)) (List.drop (0 : Nat) (hpC (Row.mk (List.take (List.length g2.1 * (2 : Nat)) (List.drop (0 : Nat) (gC enF g2.1))) true (Ob.cells true))))) true (Ob.cells true)) ≤ (9223372036854775807 : Nat))))))) ∧
    (br (saB (Row.mk (List.take (hpK (Row.mk (List.take (hpK (Row.mk (List.take (List.length g2.1 * (2 : Nat)) (List.drop (0 : Nat) (gC enF g2.1))) true (Ob.cells true)) * (2 : Nat)) (List.drop (0 : Nat) (hpC (Row.mk (List.take (List.length g2.1 * (2 : Nat)) (List.drop (0 : Nat) (gC enF g2.1))) true (Ob.cells true))))) true (Ob.cells true)) * (2 : Nat)) (List.drop (0 : Nat) (hpC (Row.mk (List.take (hpK (Row.mk (List.take (List.length g2.1 * (2 : Nat)) (List.drop (0 : Nat) (gC enF g2.1))) true (Ob.cells true)) * (2 : Nat)) (List.drop (0 : Nat) (hpC (Row.mk (List.take (List.length g2.1 * (2 : Nat)) (List.drop (0 : Nat) (gC enF g2.1))) true (Ob.cells true))))) true (Ob.cells true))))) true (Ob.cells true)) (Row.mk (List.take (hpK (Row.mk (List.take (List.length g2.1 * (2 : Nat)) (List.drop (0 : Nat) (gC enF g2.1))) true (Ob.cells true)) * (2 : Nat)) (List.drop (0 : Nat) (hpC (Row.mk (List.take (List.length g2.1 * (2 : Nat)) (List.drop (0 : Nat) (gC enF g2.1))) true (Ob.cells true))))) true (Ob.cells true)))
     (((True ∧ (True ∧ (True ∧ True)))) ∧
     ((true = true) ∧
     ((Eq (α := List Value) (gC enF l) (gC enF g2.1)) ∧
     ((Plain (gC enF l)) ∧
     True))))
     ((true = false) ∧
     ((Eq (α := List Value) (gC enF l) (gC enF g2.1)) ∧
     ((Plain (gC enF l)) ∧
     True))))))
    ((true = false) ∧
    ((Eq (α := List Value) (gC enF l) (gC enF g2.1)) ∧
    ((Plain (gC enF l)) ∧
    True)))))))))))))))))))))))))))))))))))))))))) := by kernel_rfl
theorem eMsRuns_ok : EntOk Try.prog eMsRuns := entC_ok (by
  intro a rows p v news h hp
  split at h <;> simp only [Option.some.injEq, Prod.mk.injEq, reduceCtorEq] at h
  obtain ⟨rfl, rfl, rfl⟩ := h
  exact con_run mixed (n := 1000000) (by kernel_rfl) (by kernel_rfl))
theorem tHo_ok : ∀ x ∈ tHo, EntOk Try.prog x := all_cons eL3_ok (all_cons eAlR_ok (all_cons eSpR_ok (all_cons eLwR_ok (all_cons eHop_ok (all_cons eSaF_ok (all_cons eMsRuns_ok (all_nil)))))))
theorem A_piece : PieceOk EtHo 1 (6, pA, specA) := by
  refine piece_loop mixed (calls_envT tHo_ok) (lok_envT _ _) lm_none (n := 60) (by kernel_rfl) (fun _ : GA => (⟨sSix, 0⟩ : StA)) (fun g s => s.i ≤ g.ps.length ∧ s.nm = nmA (g.ps.take s.i)) (fun g s => g.ps.length - s.i) (sl := slA) (rl := rlA) (fun g hg => ⟨Nat.zero_le _, rfl⟩) (fun g s hg hi => ?_)
  refine (A_round g s _ _).mpr ?_
  obtain ⟨l, ps⟩ := g
  obtain ⟨nm, i⟩ := s
  obtain ⟨g1, g2⟩ := hg
  obtain ⟨h1, h2⟩ := hi
  simp only at g1 g2 h1 h2
  have hnl : nm.length = 6 + i := by rw [h2]; unfold nmA; simp [sSix]; omega
  have sTk : List.take nm.length (gC enS nm) = gC enS nm := by have := sLen nm; exact List.take_of_length_le (by omega)
  simp only [ofNat_eq, toNat_cast, Nat.zero_add, Nat.add_zero, Nat.mul_one, List.drop_zero, bCells_len, bCells_drop, bCells_take, bCells_app, bCells_one, bCells_plain, List.length_replicate, List.length_append, List.length_take, List.length_drop, List.take_length, and_true, true_and, and_self, decide_true, List.length_nil, List.length_cons, Nat.sub_zero, dB_mk, dB_ro, List.take_zero, fPl, sPl, sLen, sTk, mk_bs, bs_d]
  refine br_if (fun h => br_dec (by omega) ?_) (fun h => ⟨nm, (by rw [h2, List.take_of_length_le (by omega)] : nm = nmA ps), rfl, rfl⟩)
  have hi : i < ps.length := by omega
  obtain ⟨c1, c2⟩ := sGet ps i hi
  have hx := g2 _ (List.getElem_mem hi)
  have w := i64_succ (show i < 9223372036854775807 by omega)
  have e2 : gC enS nm ++ [Value.string (bs (lowerL ps[i]))] = gC enS (nm ++ [lowerL ps[i]]) := by rw [← gC_app]; rfl
  simp only [c1, c2, lowS_bs, bs_len, w, true_and, mk_bs, bs_d, e2]
  refine ⟨by omega, br_dec (by omega) (br_dec (by omega) ⟨⟨nm ++ [lowerL ps[i]], i + 1⟩, ⟨by simp only; omega, ?_⟩, by simp only; omega, by simp, rfl, rfl⟩)⟩
  simp only
  rw [h2, List.take_succ_eq_append_getElem hi]
  unfold nmA
  rw [List.map_append, List.append_assoc]; rfl
theorem C_piece : PieceOk EtHo 1 (6, pC, specC) := by
  refine piece_loop mixed (calls_envT tHo_ok) (lok_envT _ _) lm_none (n := 60) (by kernel_rfl) (fun _ : GC => (⟨false, 0⟩ : StC)) (fun g s => s.k ≤ g.nm.length ∧ s.b = hasL (g.nm.take s.k) (nOf g)) (fun g s => g.nm.length - s.k) (sl := slC) (rl := fun g _ => rlC g) (fun g hg => ⟨Nat.zero_le _, rfl⟩) (fun g s hg hi => ?_)
  refine (C_round g s _ _).mpr ?_
  obtain ⟨l, nm, acc, i⟩ := g
  obtain ⟨b, k⟩ := s
  obtain ⟨g1, g2, g3⟩ := hg
  obtain ⟨h1, h2⟩ := hi
  have hn : nOf ⟨l, nm, acc, i⟩ = l[i].n := by unfold nOf; simp only; rw [List.getD_eq_getElem?_getD, List.getElem?_eq_getElem g3]; rfl
  rw [hn] at h2
  simp only at g1 g2 g3 h1 h2
  simp only [ofNat_eq, toNat_cast, Nat.zero_add, Nat.add_zero, Nat.mul_one, List.drop_zero, bCells_len, bCells_drop, bCells_take, bCells_app, bCells_one, bCells_plain, List.length_replicate, List.length_append, List.length_take, List.length_drop, List.take_length, and_true, true_and, and_self, decide_true, List.length_nil, List.length_cons, Nat.sub_zero, dB_mk, dB_ro, List.take_zero, fPl, sPl, hn, mk_bs, bs_d]
  refine br_if (fun h => ?_) (fun h => ⟨(), by rw [h2, List.take_of_length_le (by omega)]⟩)
  have hi : k < nm.length := by omega
  obtain ⟨c1, c2⟩ := sGet nm k hi
  obtain ⟨d1, d2, d3, d4⟩ := fGet l i g3
  have w := i64_succ (show k < 9223372036854775807 by omega)
  have ht : nm.take (k + 1) = nm.take k ++ [nm[k]] := List.take_succ_eq_append_getElem hi
  simp only [c1, c2, d1, d2, d3, d4, w, strEq_bs, true_and, mk_bs, bs_d]
  have go : ∀ b' : Bool, b' = (hasL (nm.take k) l[i].n || decide (nm[k] = l[i].n)) → ∃ j : StC, (j.k ≤ nm.length ∧ j.b = hasL (nm.take j.k) l[i].n) ∧ nm.length - j.k < nm.length - k ∧ j.b = b' ∧ (j.k : Int) = ((k + 1 : Nat) : Int) := fun b' hb => ⟨⟨b', k + 1⟩, ⟨by simp only; omega, by simp only; rw [hb, ht, hasL_app]; unfold hasL; simp⟩, by simp only; omega, rfl, rfl⟩
  refine br_intro (fun q => go _ (by rw [← h2, q]; rfl)) (fun q => br_dec (by omega) (br_dec (by omega) (go _ (by rw [← h2, q]; rfl))))
theorem B_piece : PieceOk EtHo 1 (6, pB, specB) := by
  refine piece_loop mixed (calls_envT tHo_ok) (lok_envT _ _) (lm_one C_piece) (n := 60) (by kernel_rfl) (fun _ : GB => (⟨[], 0⟩ : StB)) (fun g s => s.i ≤ g.l.length ∧ s.acc.length ≤ s.i ∧ s.acc = (g.l.take s.i).filter (keepB g.nm)) (fun g s => g.l.length - s.i) (sl := slB') (rl := rlB) (fun g hg => ⟨Nat.zero_le _, Nat.zero_le _, rfl⟩) (fun g s hg hi => ?_)
  refine (B_round g s _ _).mpr ?_
  obtain ⟨l, nm⟩ := g
  obtain ⟨acc, i⟩ := s
  obtain ⟨g1, g2⟩ := hg
  obtain ⟨h1, h2, h3⟩ := hi
  simp only at g1 g2 h1 h2 h3
  simp only [ofNat_eq, toNat_cast, Nat.zero_add, Nat.add_zero, Nat.mul_one, List.drop_zero, bCells_len, bCells_drop, bCells_take, bCells_app, bCells_one, bCells_plain, List.length_replicate, List.length_append, List.length_take, List.length_drop, List.take_length, and_true, true_and, and_self, decide_true, List.length_nil, List.length_cons, Nat.sub_zero, dB_mk, dB_ro, List.take_zero, fPl, sPl, fLen, sLen, fTake, mk_bs, bs_d]
  refine br_if (fun h => ?_) (fun h => ⟨(), ?_⟩)
  rotate_left
  · rw [List.take_of_length_le (by omega)] at h3
    rw [h3]; exact ⟨rfl, rfl⟩
  have hi : i < l.length := by omega
  obtain ⟨c1, c2, c3, c4⟩ := fGet l i hi
  have w := i64_succ (show i < 9223372036854775807 by omega)
  have ht : l.take (i + 1) = l.take i ++ [l[i]] := List.take_succ_eq_append_getElem hi
  have hn : nOf ⟨l, nm, acc, i⟩ = l[i].n := by unfold nOf; simp only; rw [List.getD_eq_getElem?_getD, List.getElem?_eq_getElem hi]; rfl
  have e2 : gC enF acc ++ [Value.string (bs l[i].n), Value.string (bs l[i].v)] = gC enF (acc ++ [l[i]]) := by rw [← gC_app]; rfl
  refine ⟨⟨l, nm, acc, i⟩, ⟨g1, g2, hi⟩, rfl, rfl, rfl, rfl, rfl, rfl, rfl, fun _ _ => ?_⟩
  simp only [c1, c2, c3, c4, w, hn, e2, fLen, fTake, true_and, mk_bs, bs_d]
  refine br_intro (fun k => br_dec (by omega) (br_dec (by omega) (br_dec (by omega) ⟨⟨acc ++ [l[i]], i + 1⟩, ⟨by simp only; omega, by simp; omega, ?_⟩, by simp only; omega, by simp, rfl, rfl⟩))) (fun k => ⟨⟨acc, i + 1⟩, ⟨by simp only; omega, by simp only; omega, ?_⟩, by simp only; omega, rfl, rfl, rfl⟩)
  · simp only; rw [ht, List.filter_append, ← h3]
    have : keepB nm l[i] = true := k
    simp [this]
  · simp only; rw [ht, List.filter_append, ← h3]
    have : keepB nm l[i] = false := k
    simp [this]
theorem keep_hop (ps : List (List UInt8)) : keepB (nmA ps) = hpP (ps.map lowerL) := by
  funext f
  unfold keepB nmA hpP
  rw [hasL_app]
  have : hasL sSix f.n = (ocL f.n || decide (f.n = sTe)) := by
    unfold hasL sSix ocL
    simp only [List.any_cons, List.any_nil, Bool.or_false, eq_comm (b := f.n), Bool.or_assoc]
  rw [this]
  cases ocL f.n <;> cases decide (f.n = sTe) <;> simp
theorem hop_lg : ∀ (l : List Fl) (p : Fl → Bool), lgN (l.filter p) ≤ lgN l
  | [], _ => Nat.le_refl _
  | f :: l, p => by
    have := hop_lg l p
    rw [List.filter_cons]
    split
    · rw [lgN, lgN]; omega
    · rw [lgN]; omega
theorem allS_none (nm : List UInt8) : ∀ (l : List Fl) (acc : List UInt8) (k : Nat), (∀ f ∈ l, f.n ≠ nm) → allS nm l acc k = acc
  | [], acc, k, _ => by rw [allS]
  | f :: l, acc, k, h => by rw [allS, if_neg (h f (by simp))]; exact allS_none nm l acc k (fun g hg => h g (by simp [hg]))
theorem hop_hop (l : List Fl) : hopL (hopL l) = hopL l := by
  have ha : allL (hopL l) sConn = [] := by
    unfold allL
    refine allS_none _ _ _ _ (fun f hf e => ?_)
    have := (List.mem_filter.1 hf).2
    unfold hpP at this
    rw [e, show ocL sConn = true by decide] at this
    simp at this
  have hn : hpN (hopL l) = [] := by unfold hpN; rw [ha]; decide
  have e : hopL (hopL l) = (hopL l).filter (hpP (hpN (hopL l))) := rfl
  rw [e, hn, List.filter_eq_self]
  intro f hf
  have := (List.mem_filter.1 hf).2
  unfold hpP at this ⊢
  simp at this ⊢
  exact ⟨this.1, this.2.1, by rfl⟩
theorem ms_hops (l : List Fl) (h : l.length ≤ 1048576) (hs : ∀ f ∈ l, f.n.length ≤ 1048576 ∧ f.v.length ≤ 1048576) : Con Try.prog 6 [.slice (some ⟨0, 0, none⟩) l.length 2] [gRo enF l] (.bool true) [gRo enF l] := by
  refine con_vc (E := EtHo) mixed (calls_envT tHo_ok) (lok_envT _ _) (M := mHo) (lm_two A_piece B_piece) (Ho_vc l) ?_
  have hm : maxLen = 9223372036854775807 := by unfold maxLen; rfl
  have ss : ShortF l := hs
  have e4 : (⟨#[99, 111, 110, 110, 101, 99, 116, 105, 111, 110]⟩ : ByteArray) = bs sConn := rfl
  simp only [ofNat_eq, toNat_cast, Nat.zero_add, Nat.add_zero, Nat.mul_one, List.drop_zero, bCells_len, bCells_drop, bCells_take, bCells_app, bCells_one, bCells_plain, List.length_replicate, List.length_append, List.length_take, List.length_drop, List.take_length, and_true, true_and, and_self, decide_true, List.length_nil, List.length_cons, Nat.sub_zero, dB_mk, dB_ro, List.take_zero, bs_dd, fTake, fPl, fLen, sPl, sLen, n_lg3, n_sh, hm, ss, List.nil_append, Nat.le_refl, e4, n_alV, n_alB, elN_bs, elC_bs, okS_bs, bs_len, isF_eq, n_hpC, n_hpK, n_hpB, saB_mk, oneN]
  have lg : br (!lg3B l) True (lgN l ≤ 3000) := br_intro (fun _ => trivial) (fun k => by unfold lg3B at k; simpa using k)
  obtain ⟨s1, s2⟩ := split_len (allL l sConn)
  have a1 := allL_le l sConn
  have a2 := hop_lg l (hpP (hpN l))
  have a3 : (hopL l).length ≤ l.length := List.length_filter_le _ _
  have a4 : lgN (hopL l) ≤ lgN l := hop_lg l _
  refine ⟨h, br_intro (fun _ => trivial) (fun k => ?_)⟩
  have k : lgN l ≤ 3000 := by unfold lg3B at k; simpa using k
  have hp : (elSp (allL l sConn)).length ≤ 16777000 := by unfold elSp; omega
  refine ⟨⟨by omega, by omega⟩, by omega, ⟨l, elSp (allL l sConn)⟩, ⟨hp, fun x hx => by have := s1 x hx; omega⟩, rfl, rfl, rfl, rfl, rfl, fun y hy => ?_⟩
  have hy : y = nmA (elSp (allL l sConn)) := hy
  have hyl : y.length ≤ 16777216 := by rw [hy]; unfold nmA; rw [List.length_append, List.length_map]; have : sSix.length = 6 := rfl; omega
  refine ⟨⟨l, y⟩, ⟨hyl, by simp only; omega⟩, rfl, rfl, rfl, rfl, fun _ _ => ?_⟩
  have e1 : l.filter (keepB y) = hopL l := by rw [hy, keep_hop]; rfl
  simp only [e1, hop_hop, sameSe_self]
  exact ⟨⟨by omega, by omega⟩, by omega, br_b rfl ⟨⟨by omega, by omega⟩, by omega, br_b rfl trivial⟩⟩
end Go.Proofs.Yteodlmfnkjdhhaa.tk
