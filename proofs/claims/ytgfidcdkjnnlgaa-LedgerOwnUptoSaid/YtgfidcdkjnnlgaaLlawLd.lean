/- The laws: any talk's status, a field's value, whose it is; an answer of another kind is never the proxy's own. -/
import Derived.Test.YtgfidcdkjnnlgaaSz9
import Derived.Test.YtgfidcdkjnnlgaaRows
import Derived.Test.YtgfidcdkjnnlgaaLldBase
set_option linter.unusedSimpArgs false
set_option linter.unusedVariables false

namespace Go.Proofs.Ytgfidcdkjnnlgaa.tk
open Go Go.Ev Go.Sy Go.RowKit Go.Proofs.Ytgfidcdkjnnlgaa.gl
noncomputable def eLdRuns : EntM := entC 3 fun a r => match a, r with
  | [], [] => some (True, .bool true, [])
  | _, _ => none
noncomputable def tLd : List EntM := [eLgt, eVa, eOr, eSt, eSr, eOw, eSd, eLdRuns]
noncomputable abbrev EtLd : Env := envT Try.prog tLd
def pLT : List Nat := [0, 1, 0, 1, 1, 1, 1, 1]
structure StLT where
  w : ByteArray
  th : Bool
  v : ByteArray
  hs : Bool
  ag : Bool
  j : Nat
def slLT0 (g : GVa) (s : StLT) : List (Nat × Value) := [(1, .string (bs g.nm)), (2, .pointer (some ⟨1, 0, none⟩)), (5, .string s.w), (6, .bool s.th), (7, .string s.v), (8, .bool s.hs), (9, .bool s.ag)]
def slLT (g : GVa) (s : StLT) : List (Nat × Value) := slLT0 g s ++ [(10, .int .i64 ((s.j : Nat) - 1))]
def agB (l : List Fl) : Bool := (fstF sAge l).isSome
def stOf (g : GVa) (j : Nat) : StLT := ⟨bs (fsL g.nm (g.l.drop j)), (fstF g.nm (g.l.drop j)).isSome, bs (fsL sVia (g.l.drop j)), (fstF sVia (g.l.drop j)).isSome, agB (g.l.drop j), j⟩
def wsLT (g : GVa) : List (Gate Unit) := [⟨.exit 0, fun _ => True, fun _ => slLT0 g (stOf g 0), fun _ => rlVr g, 2⟩]
def specLT : Sy.Spec := specOf 1 2 99 (fun g : GVa => g.l.length ≤ 1048576) (fun g => slLT g ⟨⟨#[]⟩, false, ⟨#[]⟩, false, false, g.l.length⟩) rlVr wsLT
def mLT := mOf [(4, pLT, specLT)]
theorem LT_round (g : GVa) (s : StLT) (Inv : StLT → Prop) (m : StLT → Nat) : mev EtLd noM 60 4 (0 :: pLT) false (codeOf Try.prog 4 (0 :: pLT)) ⟨mkOv (slLT g s), 99, []⟩ none ⟨mkR (rlVr g), 2⟩ (roundK 1 2 99 Inv m (slLT g) (fun _ => rlVr g) (wsLT g) s) =
  (br (decide ((↑s.6 : Int) - (1 : Int) ≥ (0 : Int)))
   (br (decide ((0 : Int) ≤ (↑s.6 : Int) - (1 : Int) ∧ (↑s.6 : Int) - (1 : Int) < (↑(List.length g.1) : Int)))
    ((Eq (α := Option Value) ((gC enF g.1)[(0 : Nat) + Int.toNat ((↑s.6 : Int) - (1 : Int)) * (2 : Nat)]?) (some (Value.string (cellS (gC enF g.1) ((0 : Nat) + Int.toNat ((↑s.6 : Int) - (1 : Int)) * (2 : Nat)))))) ∧
    ((Eq (α := Option Value) ((gC enF g.1)[(0 : Nat) + Int.toNat ((↑s.6 : Int) - (1 : Int)) * (2 : Nat) + (1 : Nat)]?) (some (Value.string (cellS (gC enF g.1) ((0 : Nat) + Int.toNat ((↑s.6 : Int) - (1 : Int)) * (2 : Nat) + (1 : Nat)))))) ∧
    (br (strEq (cellS (gC enF g.1) ((0 : Nat) + Int.toNat ((↑s.6 : Int) - (1 : Int)) * (2 : Nat))) (bs g.2))
     (br (strEq (cellS (gC enF g.1) ((0 : Nat) + Int.toNat ((↑s.6 : Int) - (1 : Int)) * (2 : Nat))) (ByteArray.mk #[(118 : UInt8), (105 : UInt8), (97 : UInt8)]))
      (br (s.5)
       (∃ j : StLT, ((Inv j) ∧
       ((m j < m s) ∧
       ((bs g.2 = bs g.2) ∧
       (((0 : Nat) = (0 : Nat)) ∧
       ((j.1 = cellS (gC enF g.1) ((0 : Nat) + Int.toNat ((↑s.6 : Int) - (1 : Int)) * (2 : Nat) + (1 : Nat))) ∧
       ((j.2 = true) ∧
       ((j.3 = cellS (gC enF g.1) ((0 : Nat) + Int.toNat ((↑s.6 : Int) - (1 : Int)) * (2 : Nat) + (1 : Nat))) ∧
       ((j.4 = true) ∧
       ((j.5 = true) ∧
       (((↑j.6 : Int) - (1 : Int) = IntKind.wrap IntKind.i64 ((↑s.6 : Int) - (1 : Int) - (1 : Int))) ∧
       ((Eq (α := List Value) (gC enF g.1) (gC enF g.1)) ∧
       ((Plain (gC enF g.1)) ∧
       ((g.3.1 = g.3.1) ∧
       ((g.3.2 = g.3.2) ∧
       ((g.3.3 = g.3.3) ∧
       (((0 : Nat) = (0 : Nat)) ∧
       ((List.length g.1 = List.length g.1) ∧
       ((g.3.4 = g.3.4) ∧
       ((g.3.5 = g.3.5) ∧
       ((g.3.6 = g.3.6) ∧
       ((g.3.7 = g.3.7) ∧
       ((g.3.8 = g.3.8) ∧
       True)))))))))))))))))))))))
       (∃ j : StLT, ((Inv j) ∧
       ((m j < m s) ∧
       ((bs g.2 = bs g.2) ∧
       (((0 : Nat) = (0 : Nat)) ∧
       ((j.1 = cellS (gC enF g.1) ((0 : Nat) + Int.toNat ((↑s.6 : Int) - (1 : Int)) * (2 : Nat) + (1 : Nat))) ∧
       ((j.2 = true) ∧
       ((j.3 = cellS (gC enF g.1) ((0 : Nat) + Int.toNat ((↑s.6 : Int) - (1 : Int)) * (2 : Nat) + (1 : Nat))) ∧
       ((j.4 = true) ∧
       ((j.5 = strEq (cellS (gC enF g.1) ((0 : Nat) + Int.toNat ((↑s.6 : Int) - (1 : Int)) * (2 : Nat))) (ByteArray.mk #[(97 : UInt8), (103 : UInt8), (101 : UInt8)])) ∧
       (((↑j.6 : Int) - (1 : Int) = IntKind.wrap IntKind.i64 ((↑s.6 : Int) - (1 : Int) - (1 : Int))) ∧
       ((Eq (α := List Value) (gC enF g.1) (gC enF g.1)) ∧
       ((Plain (gC enF g.1)) ∧
       ((g.3.1 = g.3.1) ∧
       ((g.3.2 = g.3.2) ∧
       ((g.3.3 = g.3.3) ∧
       (((0 : Nat) = (0 : Nat)) ∧
       ((List.length g.1 = List.length g.1) ∧
       ((g.3.4 = g.3.4) ∧
       ((g.3.5 = g.3.5) ∧
       ((g.3.6 = g.3.6) ∧
       ((g.3.7 = g.3.7) ∧
       ((g.3.8 = g.3.8) ∧
       True))))))))))))))))))))))))
      (br (s.5)
       (∃ j : StLT, ((Inv j) ∧
       ((m j < m s) ∧
       ((bs g.2 = bs g.2) ∧
       (((0 : Nat) = (0 : Nat)) ∧
       ((j.1 = cellS (gC enF g.1) ((0 : Nat) + Int.toNat ((↑s.6 : Int) - (1 : Int)) * (2 : Nat) + (1 : Nat))) ∧
       ((j.2 = true) ∧
       ((j.3 = s.3) ∧
       ((j.4 = s.4) ∧
       ((j.5 = true) ∧
       (((↑j.6 : Int) - (1 : Int) = IntKind.wrap IntKind.i64 ((↑s.6 : Int) - (1 : Int) - (1 : Int))) ∧
       ((Eq (α := List Value) (gC enF g.1) (gC enF g.1)) ∧
       ((Plain (gC enF g.1)) ∧
       ((g.3.1 = g.3.1) ∧
       ((g.3.2 = g.3.2) ∧
       ((g.3.3 = g.3.3) ∧
       (((0 : Nat) = (0 : Nat)) ∧
       ((List.length g.1 = List.length g.1) ∧
       ((g.3.4 = g.3.4) ∧
       ((g.3.5 = g.3.5) ∧
       ((g.3.6 = g.3.6) ∧
       ((g.3.7 = g.3.7) ∧
       ((g.3.8 = g.3.8) ∧
       True)))))))))))))))))))))))
       (∃ j : StLT, ((Inv j) ∧
       ((m j < m s) ∧
       ((bs g.2 = bs g.2) ∧
       (((0 : Nat) = (0 : Nat)) ∧
       ((j.1 = cellS (gC enF g.1) ((0 : Nat) + Int.toNat ((↑s.6 : Int) - (1 : Int)) * (2 : Nat) + (1 : Nat))) ∧
       ((j.2 = true) ∧
       ((j.3 = s.3) ∧
       ((j.4 = s.4) ∧
       ((j.5 = strEq (cellS (gC enF g.1) ((0 : Nat) + Int.toNat ((↑s.6 : Int) - (1 : Int)) * (2 : Nat))) (ByteArray.mk #[(97 : UInt8), (103 : UInt8), (101 : UInt8)])) ∧
       (((↑j.6 : Int) - (1 : Int) = IntKind.wrap IntKind.i64 ((↑s.6 : Int) - (1 : Int) - (1 : Int))) ∧
       ((Eq (α := List Value) (gC enF g.1) (gC enF g.1)) ∧
       ((Plain (gC enF g.1)) ∧
       ((g.3.1 = g.3.1) ∧
       ((g.3.2 = g.3.2) ∧
       ((g.3.3 = g.3.3) ∧
       (((0 : Nat) = (0 : Nat)) ∧
       ((List.length g.1 = List.length g.1) ∧
       ((g.3.4 = g.3.4) ∧
       ((g.3.5 = g.3.5) ∧
       ((g.3.6 = g.3.6) ∧
       ((g.3.7 = g.3.7) ∧
       ((g.3.8 = g.3.8) ∧
       True)))))))))))))))))))))))))
     (br (strEq (cellS (gC enF g.1) ((0 : Nat) + Int.toNat ((↑s.6 : Int) - (1 : Int)) * (2 : Nat))) (ByteArray.mk #[(118 : UInt8), (105 : UInt8), (97 : UInt8)]))
      (br (s.5)
       (∃ j : StLT, ((Inv j) ∧
       ((m j < m s) ∧
       ((bs g.2 = bs g.2) ∧
       (((0 : Nat) = (0 : Nat)) ∧
       ((j.1 = s.1) ∧
       ((j.2 = s.2) ∧
       ((j.3 = cellS (gC enF g.1) ((0 : Nat) + Int.toNat ((↑s.6 : Int) - (1 : Int)) * (2 : Nat) + (1 : Nat))) ∧
       ((j.4 = true) ∧
       ((j.5 = true) ∧
       (((↑j.6 : Int) - (1 : Int) = IntKind.wrap IntKind.i64 ((↑s.6 : Int) - (1 : Int) - (1 : Int))) ∧
       ((Eq (α := List Value) (gC enF g.1) (gC enF g.1)) ∧
       ((Plain (gC enF g.1)) ∧
       ((g.3.1 = g.3.1) ∧
       ((g.3.2 = g.3.2) ∧
       ((g.3.3 = g.3.3) ∧
       (((0 : Nat) = (0 : Nat)) ∧
       ((List.length g.1 = List.length g.1) ∧
       ((g.3.4 = g.3.4) ∧
       ((g.3.5 = g.3.5) ∧
       ((g.3.6 = g.3.6) ∧
       ((g.3.7 = g.3.7) ∧
       ((g.3.8 = g.3.8) ∧
       True)))))))))))))))))))))))
       (∃ j : StLT, ((Inv j) ∧
       ((m j < m s) ∧
       ((bs g.2 = bs g.2) ∧
       (((0 : Nat) = (0 : Nat)) ∧
       ((j.1 = s.1) ∧
       ((j.2 = s.2) ∧
       ((j.3 = cellS (gC enF g.1) ((0 : Nat) + Int.toNat ((↑s.6 : Int) - (1 : Int)) * (2 : Nat) + (1 : Nat))) ∧
       ((j.4 = true) ∧
       ((j.5 = strEq (cellS (gC enF g.1) ((0 : Nat) + Int.toNat ((↑s.6 : Int) - (1 : Int)) * (2 : Nat))) (ByteArray.mk #[(97 : UInt8), (103 : UInt8), (101 : UInt8)])) ∧
       (((↑j.6 : Int) - (1 : Int) = IntKind.wrap IntKind.i64 ((↑s.6 : Int) - (1 : Int) - (1 : Int))) ∧
       ((Eq (α := List Value) (gC enF g.1) (gC enF g.1)) ∧
       ((Plain (gC enF g.1)) ∧
       ((g.3.1 = g.3.1) ∧
       ((g.3.2 = g.3.2) ∧
       ((g.3.3 = g.3.3) ∧
       (((0 : Nat) = (0 : Nat)) ∧
       ((List.length g.1 = List.length g.1) ∧
       ((g.3.4 = g.3.4) ∧
       ((g.3.5 = g.3.5) ∧
       ((g.3.6 = g.3.6) ∧
       ((g.3.7 = g.3.7) ∧
       ((g.3.8 = g.3.8) ∧
       True))))))))))))))))))))))))
      (br (s.5)
       (∃ j : StLT, ((Inv j) ∧
       ((m j < m s) ∧
       ((bs g.2 = bs g.2) ∧
       (((0 : Nat) = (0 : Nat)) ∧
       ((j.1 = s.1) ∧
       ((j.2 = s.2) ∧
       ((j.3 = s.3) ∧
       ((j.4 = s.4) ∧
       ((j.5 = true) ∧
       (((↑j.6 : Int) - (1 : Int) = IntKind.wrap IntKind.i64 ((↑s.6 : Int) - (1 : Int) - (1 : Int))) ∧
       ((Eq (α := List Value) (gC enF g.1) (gC enF g.1)) ∧
       ((Plain (gC enF g.1)) ∧
       ((g.3.1 = g.3.1) ∧
       ((g.3.2 = g.3.2) ∧
       ((g.3.3 = g.3.3) ∧
       (((0 : Nat) = (0 : Nat)) ∧
       ((List.length g.1 = List.length g.1) ∧
       ((g.3.4 = g.3.4) ∧
       ((g.3.5 = g.3.5) ∧
       ((g.3.6 = g.3.6) ∧
       ((g.3.7 = g.3.7) ∧
       ((g.3.8 = g.3.8) ∧
       True)))))))))))))))))))))))
       (∃ j : StLT, ((Inv j) ∧
       ((m j < m s) ∧
       ((bs g.2 = bs g.2) ∧
       (((0 : Nat) = (0 : Nat)) ∧
       ((j.1 = s.1) ∧
       ((j.2 = s.2) ∧
       ((j.3 = s.3) ∧
       ((j.4 = s.4) ∧
       ((j.5 = strEq (cellS (gC enF g.1) ((0 : Nat) + Int.toNat ((↑s.6 : Int) - (1 : Int)) * (2 : Nat))) (ByteArray.mk #[(97 : UInt8), (103 : UInt8), (101 : UInt8)])) ∧
       (((↑j.6 : Int) - (1 : Int) = IntKind.wrap IntKind.i64 ((↑s.6 : Int) - (1 : Int) - (1 : Int))) ∧
       ((Eq (α := List Value) (gC enF g.1) (gC enF g.1)) ∧
       ((Plain (gC enF g.1)) ∧
       ((g.3.1 = g.3.1) ∧
       ((g.3.2 = g.3.2) ∧
       ((g.3.3 = g.3.3) ∧
       (((0 : Nat) = (0 : Nat)) ∧
       ((List.length g.1 = List.length g.1) ∧
       ((g.3.4 = g.3.4) ∧
       ((g.3.5 = g.3.5) ∧
       ((g.3.6 = g.3.6) ∧
       ((g.3.7 = g.3.7) ∧
       ((g.3.8 = g.3.8) ∧
       True))))))))))))))))))))))))))))
    False)
   (∃ y : Unit, ((True) ∧
   ((bs g.2 = bs g.2) ∧
   (((0 : Nat) = (0 : Nat)) ∧
   ((bs (fsL g.2 (List.drop (0 : Nat) g.1)) = s.1) ∧
   ((Option.isSome (fstF (GVa.nm g) (List.drop (0 : Nat) (GVa.l g))) = s.2) ∧
   ((bs (fsL [(118 : UInt8), (105 : UInt8), (97 : UInt8)] (List.drop (0 : Nat) g.1)) = s.3) ∧
   ((Option.isSome (fstF sVia (List.drop (0 : Nat) (GVa.l g))) = s.4) ∧
   ((agB (List.drop (0 : Nat) g.1) = s.5) ∧
   ((Eq (α := List Value) (gC enF g.1) (gC enF g.1)) ∧
   ((Plain (gC enF g.1)) ∧
   ((g.3.1 = g.3.1) ∧
   ((g.3.2 = g.3.2) ∧
   ((g.3.3 = g.3.3) ∧
   (((0 : Nat) = (0 : Nat)) ∧
   ((List.length g.1 = List.length g.1) ∧
   ((g.3.4 = g.3.4) ∧
   ((g.3.5 = g.3.5) ∧
   ((g.3.6 = g.3.6) ∧
   ((g.3.7 = g.3.7) ∧
   ((g.3.8 = g.3.8) ∧
   True)))))))))))))))))))))) := by kernel_rfl
theorem LT_vc (y : TkY) (l : List Fl) (nm : List UInt8) : mcall EtLd mLT 60 4 [.agg ⟨tkCy y 0 l.length⟩, .string (bs nm)] ⟨mkR (nums 0 [gRo enF l]), 1⟩ (retIs 1 (.bool true) [gRo enF l]) =
  ((((((0 : Nat) + List.length l * (2 : Nat) ≤ List.length (gC enF l) ∧ Plain (List.take (List.length l * (2 : Nat)) (List.drop (0 : Nat) (gC enF l)))) ∧ True) ∧ ((True ∧ True) ∧ (True ∧ (IsF (Row.mk (List.take (List.length l * (2 : Nat)) (List.drop (0 : Nat) (gC enF l))) true (Ob.cells true)) (List.length l) ∧ (List.length l ≤ (1048576 : Nat) ∧ ShR (Row.mk (List.take (List.length l * (2 : Nat)) (List.drop (0 : Nat) (gC enF l))) true (Ob.cells true)))))))) ∧
  (br (!lgR (Row.mk (List.take (List.length l * (2 : Nat)) (List.drop (0 : Nat) (gC enF l))) true (Ob.cells true)))
   (((True ∧ (True ∧ (True ∧ True)))) ∧
   ((true = true) ∧
   ((Eq (α := List Value) (gC enF l) (gC enF l)) ∧
   ((Plain (gC enF l)) ∧
   True))))
   (∃ g : GVa, ((List.length g.1 ≤ (1048576 : Nat)) ∧
   ((bs g.2 = bs nm) ∧
   (((0 : Nat) = (0 : Nat)) ∧
   ((ByteArray.mk #[] = ByteArray.mk #[]) ∧
   ((false = false) ∧
   ((ByteArray.mk #[] = ByteArray.mk #[]) ∧
   ((false = false) ∧
   ((false = false) ∧
   (((↑(List.length g.1) : Int) - (1 : Int) = IntKind.wrap IntKind.i64 (Int.ofNat (List.length l) - (1 : Int))) ∧
   ((Eq (α := List Value) (gC enF g.1) (gC enF l)) ∧
   ((Plain (gC enF g.1)) ∧
   ((g.3.1 = y.1) ∧
   ((g.3.2 = y.2) ∧
   ((g.3.3 = y.3) ∧
   (((0 : Nat) = (0 : Nat)) ∧
   ((List.length g.1 = List.length l) ∧
   ((g.3.4 = y.4) ∧
   ((g.3.5 = y.5) ∧
   ((g.3.6 = y.6) ∧
   ((g.3.7 = y.7) ∧
   ((g.3.8 = y.8) ∧
   (∀ (y2 : Unit), ((True) →
   (((((True ∧ (True ∧ (True ∧ (((0 : Nat) + List.length g.1 * (2 : Nat) ≤ List.length (gC enF g.1) ∧ Plain (List.take (List.length g.1 * (2 : Nat)) (List.drop (0 : Nat) (gC enF g.1)))) ∧ (True ∧ (True ∧ (True ∧ (True ∧ (True ∧ True))))))))) ∧ (True ∧ True)) ∧ ((True ∧ True) ∧ (True ∧ (IsF (Row.mk (List.take (List.length g.1 * (2 : Nat)) (List.drop (0 : Nat) (gC enF g.1))) true (Ob.cells true)) (List.length g.1) ∧ List.length g.1 ≤ (9223372036854775807 : Nat)))))) ∧
   (((((True ∧ (True ∧ (True ∧ (((0 : Nat) + List.length g.1 * (2 : Nat) ≤ List.length (gC enF g.1) ∧ Plain (List.take (List.length g.1 * (2 : Nat)) (List.drop (0 : Nat) (gC enF g.1)))) ∧ (True ∧ (True ∧ (True ∧ (True ∧ (True ∧ True))))))))) ∧ True) ∧ ((True ∧ True) ∧ (True ∧ (IsF (Row.mk (List.take (List.length g.1 * (2 : Nat)) (List.drop (0 : Nat) (gC enF g.1))) true (Ob.cells true)) (List.length g.1) ∧ List.length g.1 ≤ (9223372036854775807 : Nat)))))) ∧
   (br (strEq (fsV (Row.mk (List.take (List.length g.1 * (2 : Nat)) (List.drop (0 : Nat) (gC enF g.1))) true (Ob.cells true)) (bs g.2)) (bs (fsL g.2 (List.drop (0 : Nat) g.1))))
    (br (fsB (Row.mk (List.take (List.length g.1 * (2 : Nat)) (List.drop (0 : Nat) (gC enF g.1))) true (Ob.cells true)) (bs g.2) == Option.isSome (fstF (GVa.nm g) (List.drop (0 : Nat) (GVa.l g))))
     (((((True ∧ (True ∧ (True ∧ (((0 : Nat) + List.length g.1 * (2 : Nat) ≤ List.length (gC enF g.1) ∧ Plain (List.take (List.length g.1 * (2 : Nat)) (List.drop (0 : Nat) (gC enF g.1)))) ∧ (True ∧ (True ∧ (True ∧ (True ∧ (True ∧ True))))))))) ∧ True) ∧ ((True ∧ True) ∧ (True ∧ (IsF (Row.mk (List.take (List.length g.1 * (2 : Nat)) (List.drop (0 : Nat) (gC enF g.1))) true (Ob.cells true)) (List.length g.1) ∧ List.length g.1 ≤ (9223372036854775807 : Nat)))))) ∧
     (((((True ∧ (True ∧ (True ∧ (((0 : Nat) + List.length g.1 * (2 : Nat) ≤ List.length (gC enF g.1) ∧ Plain (List.take (List.length g.1 * (2 : Nat)) (List.drop (0 : Nat) (gC enF g.1)))) ∧ (True ∧ (True ∧ (True ∧ (True ∧ (True ∧ True))))))))) ∧ True) ∧ ((True ∧ True) ∧ (True ∧ (IsF (Row.mk (List.take (List.length g.1 * (2 : Nat)) (List.drop (0 : Nat) (gC enF g.1))) true (Ob.cells true)) (List.length g.1) ∧ List.length g.1 ≤ (9223372036854775807 : Nat)))))) ∧
     (br (statR (Row.mk (List.take (List.length g.1 * (2 : Nat)) (List.drop (0 : Nat) (gC enF g.1))) true (Ob.cells true)) == statR (Row.mk (List.take (List.length g.1 * (2 : Nat)) (List.drop (0 : Nat) (gC enF g.1))) true (Ob.cells true)))
      (((((True ∧ (True ∧ (True ∧ (((0 : Nat) + List.length g.1 * (2 : Nat) ≤ List.length (gC enF g.1) ∧ Plain (List.take (List.length g.1 * (2 : Nat)) (List.drop (0 : Nat) (gC enF g.1)))) ∧ (True ∧ (True ∧ (True ∧ (True ∧ (True ∧ True))))))))) ∧ True) ∧ ((True ∧ True) ∧ (True ∧ (IsF (Row.mk (List.take (List.length g.1 * (2 : Nat)) (List.drop (0 : Nat) (gC enF g.1))) true (Ob.cells true)) (List.length g.1) ∧ List.length g.1 ≤ (9223372036854775807 : Nat)))))) ∧
      (br (ownR (Row.mk (List.take (List.length g.1 * (2 : Nat)) (List.drop (0 : Nat) (gC enF g.1))) true (Ob.cells true)) g.3.4 == ownR (Row.mk (List.take (List.length g.1 * (2 : Nat)) (List.drop (0 : Nat) (gC enF g.1))) true (Ob.cells true)) g.3.4)
       (((((True ∧ (True ∧ (True ∧ (((0 : Nat) + List.length g.1 * (2 : Nat) ≤ List.length (gC enF g.1) ∧ Plain (List.take (List.length g.1 * (2 : Nat)) (List.drop (0 : Nat) (gC enF g.1)))) ∧ (True ∧ (True ∧ (True ∧ (True ∧ (True ∧ True))))))))) ∧ True) ∧ ((True ∧ True) ∧ (True ∧ (IsF (Row.mk (List.take (List.length g.1 * (2 : Nat)) (List.drop (0 : Nat) (gC enF g.1))) true (Ob.cells true)) (List.length g.1) ∧ List.length g.1 ≤ (9223372036854775807 : Nat)))))) ∧
       (br (agB (List.drop (0 : Nat) g.1))
        (br (Option.isSome (fstF sVia (List.drop (0 : Nat) (GVa.l g))))
         (br (strEq (bs (fsL [(118 : UInt8), (105 : UInt8), (97 : UInt8)] (List.drop (0 : Nat) g.1))) (ByteArray.mk #[(50 : UInt8), (32 : UInt8), (114 : UInt8), (101 : UInt8), (115 : UInt8), (101 : UInt8), (114 : UInt8), (118 : UInt8), (111 : UInt8), (105 : UInt8), (114 : UInt8)]))
          (br (storR (Row.mk (List.take (List.length g.1 * (2 : Nat)) (List.drop (0 : Nat) (gC enF g.1))) true (Ob.cells true)) g.3.4 == !ownR (Row.mk (List.take (List.length g.1 * (2 : Nat)) (List.drop (0 : Nat) (gC enF g.1))) true (Ob.cells true)) g.3.4)
           (((True ∧ (True ∧ (True ∧ True)))) ∧
           ((Value.agg (Array.mk [Value.int IntKind.i64 g.3.1, Value.int IntKind.i64 g.3.2, Value.int IntKind.i64 g.3.3, Value.slice (some (Addr.mk (0 : Nat) (0 : Nat) none)) (List.length g.1) (2 : Nat), Value.string g.3.4, Value.bool g.3.5, Value.bool g.3.6, Value.int IntKind.i64 g.3.7, Value.int IntKind.i64 g.3.8]) = Value.agg (Array.mk [Value.int IntKind.i64 g.3.1, Value.int IntKind.i64 g.3.2, Value.int IntKind.i64 g.3.3, Value.slice (some (Addr.mk (0 : Nat) (0 : Nat) none)) (List.length g.1) (2 : Nat), Value.string g.3.4, Value.bool g.3.5, Value.bool g.3.6, Value.int IntKind.i64 g.3.7, Value.int IntKind.i64 g.3.8])) ∧
           ((Value.agg (Array.mk [Value.int IntKind.i64 g.3.1, Value.int IntKind.i64 g.3.2, Value.int IntKind.i64 g.3.3, Value.slice (some (Addr.mk (0 : Nat) (0 : Nat) none)) (List.length g.1) (2 : Nat), Value.string g.3.4, Value.bool g.3.5, Value.bool g.3.6, Value.int IntKind.i64 g.3.7, Value.int IntKind.i64 g.3.8]) = Value.agg (Array.mk [Value.int IntKind.i64 g.3.1, Value.int IntKind.i64 g.3.2, Value.int IntKind.i64 g.3.3, Value.slice (some (Addr.mk (0 : Nat) (0 : Nat) none)) (List.length g.1) (2 : Nat), Value.string g.3.4, Value.bool g.3.5, Value.bool g.3.6, Value.int IntKind.i64 g.3.7, Value.int IntKind.i64 g.3.8])) ∧
           ((Value.agg (Array.mk [Value.int IntKind.i64 g.3.1, Value.int IntKind.i64 g.3.2, Value.int IntKind.i64 g.3.3, Value.slice (some (Addr.mk (0 : Nat) (0 : Nat) none)) (List.length g.1) (2 : Nat), Value.string g.3.4, Value.bool g.3.5, Value.bool g.3.6, Value.int IntKind.i64 g.3.7, Value.int IntKind.i64 g.3.8]) = Value.agg (Array.mk [Value.int IntKind.i64 g.3.1, Value.int IntKind.i64 g.3.2, Value.int IntKind.i64 g.3.3, Value.slice (some (Addr.mk (0 : Nat) (0 : Nat) none)) (List.length g.1) (2 : Nat), Value.string g.3.4, Value.bool g.3.5, Value.bool g.3.6, Value.int IntKind.i64 g.3.7, Value.int IntKind.i64 g.3.8])) ∧
           ((Value.agg (Array.mk [Value.int IntKind.i64 g.3.1, Value.int IntKind.i64 g.3.2, Value.int IntKind.i64 g.3.3, Value.slice (some (Addr.mk (0 : Nat) (0 : Nat) none)) (List.length g.1) (2 : Nat), Value.string g.3.4, Value.bool g.3.5, Value.bool g.3.6, Value.int IntKind.i64 g.3.7, Value.int IntKind.i64 g.3.8]) = Value.agg (Array.mk [Value.int IntKind.i64 g.3.1, Value.int IntKind.i64 g.3.2, Value.int IntKind.i64 g.3.3, Value.slice (some (Addr.mk (0 : Nat) (0 : Nat) none)) (List.length g.1) (2 : Nat), Value.string g.3.4, Value.bool g.3.5, Value.bool g.3.6, Value.int IntKind.i64 g.3.7, Value.int IntKind.i64 g.3.8])) ∧
           ((Value.agg (Array.mk [Value.int IntKind.i64 g.3.1, Value.int IntKind.i64 g.3.2, Value.int IntKind.i64 g.3.3, Value.slice (some (Addr.mk (0 : Nat) (0 : Nat) none)) (List.length g.1) (2 : Nat), Value.string g.3.4, Value.bool g.3.5, Value.bool g.3.6, Value.int IntKind.i64 g.3.7, Value.int IntKind.i64 g.3.8]) = Value.agg (Array.mk [Value.int IntKind.i64 g.3.1, Value.int IntKind.i64 g.3.2, Value.int IntKind.i64 g.3.3, Value.slice (some (Addr.mk (0 : Nat) (0 : Nat) none)) (List.length g.1) (2 : Nat), Value.string g.3.4, Value.bool g.3.5, Value.bool g.3.6, Value.int IntKind.i64 g.3.7, Value.int IntKind.i64 g.3.8])) ∧
           ((true = true) ∧
           ((Eq (α := List Value) (gC enF l) (gC enF g.1)) ∧
           ((Plain (gC enF l)) ∧
           True)))))))))
           ((Value.agg (Array.mk [Value.int IntKind.i64 g.3.1, Value.int IntKind.i64 g.3.2, Value.int IntKind.i64 g.3.3, Value.slice (some (Addr.mk (0 : Nat) (0 : Nat) none)) (List.length g.1) (2 : Nat), Value.string g.3.4, Value.bool g.3.5, Value.bool g.3.6, Value.int IntKind.i64 g.3.7, Value.int IntKind.i64 g.3.8]) = Value.agg (Array.mk [Value.int IntKind.i64 g.3.1, Value.int IntKind.i64 g.3.2, Value.int IntKind.i64 g.3.3, Value.slice (some (Addr.mk (0 : Nat) (0 : Nat) none)) (List.length g.1) (2 : Nat), Value.string g.3.4, Value.bool g.3.5, Value.bool g.3.6, Value.int IntKind.i64 g.3.7, Value.int IntKind.i64 g.3.8])) ∧
           ((Value.agg (Array.mk [Value.int IntKind.i64 g.3.1, Value.int IntKind.i64 g.3.2, Value.int IntKind.i64 g.3.3, Value.slice (some (Addr.mk (0 : Nat) (0 : Nat) none)) (List.length g.1) (2 : Nat), Value.string g.3.4, Value.bool g.3.5, Value.bool g.3.6, Value.int IntKind.i64 g.3.7, Value.int IntKind.i64 g.3.8]) = Value.agg (Array.mk [Value.int IntKind.i64 g.3.1, Value.int IntKind.i64 g.3.2, Value.int IntKind.i64 g.3.3, Value.slice (some (Addr.mk (0 : Nat) (0 : Nat) none)) (List.length g.1) (2 : Nat), Value.string g.3.4, Value.bool g.3.5, Value.bool g.3.6, Value.int IntKind.i64 g.3.7, Value.int IntKind.i64 g.3.8])) ∧
           ((Value.agg (Array.mk [Value.int IntKind.i64 g.3.1, Value.int IntKind.i64 g.3.2, Value.int IntKind.i64 g.3.3, Value.slice (some (Addr.mk (0 : Nat) (0 : Nat) none)) (List.length g.1) (2 : Nat), Value.string g.3.4, Value.bool g.3.5, Value.bool g.3.6, Value.int IntKind.i64 g.3.7, Value.int IntKind.i64 g.3.8]) = Value.agg (Array.mk [Value.int IntKind.i64 g.3.1, Value.int IntKind.i64 g.3.2, Value.int IntKind.i64 g.3.3, Value.slice (some (Addr.mk (0 : Nat) (0 : Nat) none)) (List.length g.1) (2 : Nat), Value.string g.3.4, Value.bool g.3.5, Value.bool g.3.6, Value.int IntKind.i64 g.3.7, Value.int IntKind.i64 g.3.8])) ∧
           ((Value.agg (Array.mk [Value.int IntKind.i64 g.3.1, Value.int IntKind.i64 g.3.2, Value.int IntKind.i64 g.3.3, Value.slice (some (Addr.mk (0 : Nat) (0 : Nat) none)) (List.length g.1) (2 : Nat), Value.string g.3.4, Value.bool g.3.5, Value.bool g.3.6, Value.int IntKind.i64 g.3.7, Value.int IntKind.i64 g.3.8]) = Value.agg (Array.mk [Value.int IntKind.i64 g.3.1, Value.int IntKind.i64 g.3.2, Value.int IntKind.i64 g.3.3, Value.slice (some (Addr.mk (0 : Nat) (0 : Nat) none)) (List.length g.1) (2 : Nat), Value.string g.3.4, Value.bool g.3.5, Value.bool g.3.6, Value.int IntKind.i64 g.3.7, Value.int IntKind.i64 g.3.8])) ∧
           ((Value.agg (Array.mk [Value.int IntKind.i64 g.3.1, Value.int IntKind.i64 g.3.2, Value.int IntKind.i64 g.3.3, Value.slice (some (Addr.mk (0 : Nat) (0 : Nat) none)) (List.length g.1) (2 : Nat), Value.string g.3.4, Value.bool g.3.5, Value.bool g.3.6, Value.int IntKind.i64 g.3.7, Value.int IntKind.i64 g.3.8]) = Value.agg (Array.mk [Value.int IntKind.i64 g.3.1, Value.int IntKind.i64 g.3.2, Value.int IntKind.i64 g.3.3, Value.slice (some (Addr.mk (0 : Nat) (0 : Nat) none)) (List.length g.1) (2 : Nat), Value.string g.3.4, Value.bool g.3.5, Value.bool g.3.6, Value.int IntKind.i64 g.3.7, Value.int IntKind.i64 g.3.8])) ∧
           ((true = false) ∧
           ((Eq (α := List Value) (gC enF l) (gC enF g.1)) ∧
           ((Plain (gC enF l)) ∧
           True)))))))))
          (br (storR (Row.mk (List.take (List.length g.1 * (2 : Nat)) (List.drop (0 : Nat) (gC enF g.1))) true (Ob.cells true)) g.3.4 == false)
           (((True ∧ (True ∧ (True ∧ True)))) ∧
           ((Value.agg (Array.mk [Value.int IntKind.i64 g.3.1, Value.int IntKind.i64 g.3.2, Value.int IntKind.i64 g.3.3, Value.slice (some (Addr.mk (0 : Nat) (0 : Nat) none)) (List.length g.1) (2 : Nat), Value.string g.3.4, Value.bool g.3.5, Value.bool g.3.6, Value.int IntKind.i64 g.3.7, Value.int IntKind.i64 g.3.8]) = Value.agg (Array.mk [Value.int IntKind.i64 g.3.1, Value.int IntKind.i64 g.3.2, Value.int IntKind.i64 g.3.3, Value.slice (some (Addr.mk (0 : Nat) (0 : Nat) none)) (List.length g.1) (2 : Nat), Value.string g.3.4, Value.bool g.3.5, Value.bool g.3.6, Value.int IntKind.i64 g.3.7, Value.int IntKind.i64 g.3.8])) ∧
           ((Value.agg (Array.mk [Value.int IntKind.i64 g.3.1, Value.int IntKind.i64 g.3.2, Value.int IntKind.i64 g.3.3, Value.slice (some (Addr.mk (0 : Nat) (0 : Nat) none)) (List.length g.1) (2 : Nat), Value.string g.3.4, Value.bool g.3.5, Value.bool g.3.6, Value.int IntKind.i64 g.3.7, Value.int IntKind.i64 g.3.8]) = Value.agg (Array.mk [Value.int IntKind.i64 g.3.1, Value.int IntKind.i64 g.3.2, Value.int IntKind.i64 g.3.3, Value.slice (some (Addr.mk (0 : Nat) (0 : Nat) none)) (List.length g.1) (2 : Nat), Value.string g.3.4, Value.bool g.3.5, Value.bool g.3.6, Value.int IntKind.i64 g.3.7, Value.int IntKind.i64 g.3.8])) ∧
           ((Value.agg (Array.mk [Value.int IntKind.i64 g.3.1, Value.int IntKind.i64 g.3.2, Value.int IntKind.i64 g.3.3, Value.slice (some (Addr.mk (0 : Nat) (0 : Nat) none)) (List.length g.1) (2 : Nat), Value.string g.3.4, Value.bool g.3.5, Value.bool g.3.6, Value.int IntKind.i64 g.3.7, Value.int IntKind.i64 g.3.8]) = Value.agg (Array.mk [Value.int IntKind.i64 g.3.1, Value.int IntKind.i64 g.3.2, Value.int IntKind.i64 g.3.3, Value.slice (some (Addr.mk (0 : Nat) (0 : Nat) none)) (List.length g.1) (2 : Nat), Value.string g.3.4, Value.bool g.3.5, Value.bool g.3.6, Value.int IntKind.i64 g.3.7, Value.int IntKind.i64 g.3.8])) ∧
           ((Value.agg (Array.mk [Value.int IntKind.i64 g.3.1, Value.int IntKind.i64 g.3.2, Value.int IntKind.i64 g.3.3, Value.slice (some (Addr.mk (0 : Nat) (0 : Nat) none)) (List.length g.1) (2 : Nat), Value.string g.3.4, Value.bool g.3.5, Value.bool g.3.6, Value.int IntKind.i64 g.3.7, Value.int IntKind.i64 g.3.8]) = Value.agg (Array.mk [Value.int IntKind.i64 g.3.1, Value.int IntKind.i64 g.3.2, Value.int IntKind.i64 g.3.3, Value.slice (some (Addr.mk (0 : Nat) (0 : Nat) none)) (List.length g.1) (2 : Nat), Value.string g.3.4, Value.bool g.3.5, Value.bool g.3.6, Value.int IntKind.i64 g.3.7, Value.int IntKind.i64 g.3.8])) ∧
           ((Value.agg (Array.mk [Value.int IntKind.i64 g.3.1, Value.int IntKind.i64 g.3.2, Value.int IntKind.i64 g.3.3, Value.slice (some (Addr.mk (0 : Nat) (0 : Nat) none)) (List.length g.1) (2 : Nat), Value.string g.3.4, Value.bool g.3.5, Value.bool g.3.6, Value.int IntKind.i64 g.3.7, Value.int IntKind.i64 g.3.8]) = Value.agg (Array.mk [Value.int IntKind.i64 g.3.1, Value.int IntKind.i64 g.3.2, Value.int IntKind.i64 g.3.3, Value.slice (some (Addr.mk (0 : Nat) (0 : Nat) none)) (List.length g.1) (2 : Nat), Value.string g.3.4, Value.bool g.3.5, Value.bool g.3.6, Value.int IntKind.i64 g.3.7, Value.int IntKind.i64 g.3.8])) ∧
           ((true = true) ∧
           ((Eq (α := List Value) (gC enF l) (gC enF g.1)) ∧
           ((Plain (gC enF l)) ∧
           True)))))))))
           ((Value.agg (Array.mk [Value.int IntKind.i64 g.3.1, Value.int IntKind.i64 g.3.2, Value.int IntKind.i64 g.3.3, Value.slice (some (Addr.mk (0 : Nat) (0 : Nat) none)) (List.length g.1) (2 : Nat), Value.string g.3.4, Value.bool g.3.5, Value.bool g.3.6, Value.int IntKind.i64 g.3.7, Value.int IntKind.i64 g.3.8]) = Value.agg (Array.mk [Value.int IntKind.i64 g.3.1, Value.int IntKind.i64 g.3.2, Value.int IntKind.i64 g.3.3, Value.slice (some (Addr.mk (0 : Nat) (0 : Nat) none)) (List.length g.1) (2 : Nat), Value.string g.3.4, Value.bool g.3.5, Value.bool g.3.6, Value.int IntKind.i64 g.3.7, Value.int IntKind.i64 g.3.8])) ∧
           ((Value.agg (Array.mk [Value.int IntKind.i64 g.3.1, Value.int IntKind.i64 g.3.2, Value.int IntKind.i64 g.3.3, Value.slice (some (Addr.mk (0 : Nat) (0 : Nat) none)) (List.length g.1) (2 : Nat), Value.string g.3.4, Value.bool g.3.5, Value.bool g.3.6, Value.int IntKind.i64 g.3.7, Value.int IntKind.i64 g.3.8]) = Value.agg (Array.mk [Value.int IntKind.i64 g.3.1, Value.int IntKind.i64 g.3.2, Value.int IntKind.i64 g.3.3, Value.slice (some (Addr.mk (0 : Nat) (0 : Nat) none)) (List.length g.1) (2 : Nat), Value.string g.3.4, Value.bool g.3.5, Value.bool g.3.6, Value.int IntKind.i64 g.3.7, Value.int IntKind.i64 g.3.8])) ∧
           ((Value.agg (Array.mk [Value.int IntKind.i64 g.3.1, Value.int IntKind.i64 g.3.2, Value.int IntKind.i64 g.3.3, Value.slice (some (Addr.mk (0 : Nat) (0 : Nat) none)) (List.length g.1) (2 : Nat), Value.string g.3.4, Value.bool g.3.5, Value.bool g.3.6, Value.int IntKind.i64 g.3.7, Value.int IntKind.i64 g.3.8]) = Value.agg (Array.mk [Value.int IntKind.i64 g.3.1, Value.int IntKind.i64 g.3.2, Value.int IntKind.i64 g.3.3, Value.slice (some (Addr.mk (0 : Nat) (0 : Nat) none)) (List.length g.1) (2 : Nat), Value.string g.3.4, Value.bool g.3.5, Value.bool g.3.6, Value.int IntKind.i64 g.3.7, Value.int IntKind.i64 g.3.8])) ∧
           ((Value.agg (Array.mk [Value.int IntKind.i64 g.3.1, Value.int IntKind.i64 g.3.2, Value.int IntKind.i64 g.3.3, Value.slice (some (Addr.mk (0 : Nat) (0 : Nat) none)) (List.length g.1) (2 : Nat), Value.string g.3.4, Value.bool g.3.5, Value.bool g.3.6, Value.int IntKind.i64 g.3.7, Value.int IntKind.i64 g.3.8]) = Value.agg (Array.mk [Value.int IntKind.i64 g.3.1, Value.int IntKind.i64 g.3.2, Value.int IntKind.i64 g.3.3, Value.slice (some (Addr.mk (0 : Nat) (0 : Nat) none)) (List.length g.1) (2 : Nat), Value.string g.3.4, Value.bool g.3.5, Value.bool g.3.6, Value.int IntKind.i64 g.3.7, Value.int IntKind.i64 g.3.8])) ∧
           ((Value.agg (Array.mk [Value.int IntKind.i64 g.3.1, Value.int IntKind.i64 g.3.2, Value.int IntKind.i64 g.3.3, Value.slice (some (Addr.mk (0 : Nat) (0 : Nat) none)) (List.length g.1) (2 : Nat), Value.string g.3.4, Value.bool g.3.5, Value.bool g.3.6, Value.int IntKind.i64 g.3.7, Value.int IntKind.i64 g.3.8]) = Value.agg (Array.mk [Value.int IntKind.i64 g.3.1, Value.int IntKind.i64 g.3.2, Value.int IntKind.i64 g.3.3, Value.slice (some (Addr.mk (0 : Nat) (0 : Nat) none)) (List.length g.1) (2 : Nat), Value.string g.3.4, Value.bool g.3.5, Value.bool g.3.6, Value.int IntKind.i64 g.3.7, Value.int IntKind.i64 g.3.8])) ∧
           ((true = false) ∧
           ((Eq (α := List Value) (gC enF l) (gC enF g.1)) ∧
           ((Plain (gC enF l)) ∧
           True))))))))))
         (br (storR (Row.mk (List.take (List.length g.1 * (2 : Nat)) (List.drop (0 : Nat) (gC enF g.1))) true (Ob.cells true)) g.3.4 == false)
          (((True ∧ (True ∧ (True ∧ True)))) ∧
          ((Value.agg (Array.mk [Value.int IntKind.i64 g.3.1, Value.int IntKind.i64 g.3.2, Value.int IntKind.i64 g.3.3, Value.slice (some (Addr.mk (0 : Nat) (0 : Nat) none)) (List.length g.1) (2 : Nat), Value.string g.3.4, Value.bool g.3.5, Value.bool g.3.6, Value.int IntKind.i64 g.3.7, Value.int IntKind.i64 g.3.8]) = Value.agg (Array.mk [Value.int IntKind.i64 g.3.1, Value.int IntKind.i64 g.3.2, Value.int IntKind.i64 g.3.3, Value.slice (some (Addr.mk (0 : Nat) (0 : Nat) none)) (List.length g.1) (2 : Nat), Value.string g.3.4, Value.bool g.3.5, Value.bool g.3.6, Value.int IntKind.i64 g.3.7, Value.int IntKind.i64 g.3.8])) ∧
          ((Value.agg (Array.mk [Value.int IntKind.i64 g.3.1, Value.int IntKind.i64 g.3.2, Value.int IntKind.i64 g.3.3, Value.slice (some (Addr.mk (0 : Nat) (0 : Nat) none)) (List.length g.1) (2 : Nat), Value.string g.3.4, Value.bool g.3.5, Value.bool g.3.6, Value.int IntKind.i64 g.3.7, Value.int IntKind.i64 g.3.8]) = Value.agg (Array.mk [Value.int IntKind.i64 g.3.1, Value.int IntKind.i64 g.3.2, Value.int IntKind.i64 g.3.3, Value.slice (some (Addr.mk (0 : Nat) (0 : Nat) none)) (List.length g.1) (2 : Nat), Value.string g.3.4, Value.bool g.3.5, Value.bool g.3.6, Value.int IntKind.i64 g.3.7, Value.int IntKind.i64 g.3.8])) ∧
          ((Value.agg (Array.mk [Value.int IntKind.i64 g.3.1, Value.int IntKind.i64 g.3.2, Value.int IntKind.i64 g.3.3, Value.slice (some (Addr.mk (0 : Nat) (0 : Nat) none)) (List.length g.1) (2 : Nat), Value.string g.3.4, Value.bool g.3.5, Value.bool g.3.6, Value.int IntKind.i64 g.3.7, Value.int IntKind.i64 g.3.8]) = Value.agg (Array.mk [Value.int IntKind.i64 g.3.1, Value.int IntKind.i64 g.3.2, Value.int IntKind.i64 g.3.3, Value.slice (some (Addr.mk (0 : Nat) (0 : Nat) none)) (List.length g.1) (2 : Nat), Value.string g.3.4, Value.bool g.3.5, Value.bool g.3.6, Value.int IntKind.i64 g.3.7, Value.int IntKind.i64 g.3.8])) ∧
          ((Value.agg (Array.mk [Value.int IntKind.i64 g.3.1, Value.int IntKind.i64 g.3.2, Value.int IntKind.i64 g.3.3, Value.slice (some (Addr.mk (0 : Nat) (0 : Nat) none)) (List.length g.1) (2 : Nat), Value.string g.3.4, Value.bool g.3.5, Value.bool g.3.6, Value.int IntKind.i64 g.3.7, Value.int IntKind.i64 g.3.8]) = Value.agg (Array.mk [Value.int IntKind.i64 g.3.1, Value.int IntKind.i64 g.3.2, Value.int IntKind.i64 g.3.3, Value.slice (some (Addr.mk (0 : Nat) (0 : Nat) none)) (List.length g.1) (2 : Nat), Value.string g.3.4, Value.bool g.3.5, Value.bool g.3.6, Value.int IntKind.i64 g.3.7, Value.int IntKind.i64 g.3.8])) ∧
          ((Value.agg (Array.mk [Value.int IntKind.i64 g.3.1, Value.int IntKind.i64 g.3.2, Value.int IntKind.i64 g.3.3, Value.slice (some (Addr.mk (0 : Nat) (0 : Nat) none)) (List.length g.1) (2 : Nat), Value.string g.3.4, Value.bool g.3.5, Value.bool g.3.6, Value.int IntKind.i64 g.3.7, Value.int IntKind.i64 g.3.8]) = Value.agg (Array.mk [Value.int IntKind.i64 g.3.1, Value.int IntKind.i64 g.3.2, Value.int IntKind.i64 g.3.3, Value.slice (some (Addr.mk (0 : Nat) (0 : Nat) none)) (List.length g.1) (2 : Nat), Value.string g.3.4, Value.bool g.3.5, Value.bool g.3.6, Value.int IntKind.i64 g.3.7, Value.int IntKind.i64 g.3.8])) ∧
          ((true = true) ∧
          ((Eq (α := List Value) (gC enF l) (gC enF g.1)) ∧
          ((Plain (gC enF l)) ∧
          True)))))))))
          ((Value.agg (Array.mk [Value.int IntKind.i64 g.3.1, Value.int IntKind.i64 g.3.2, Value.int IntKind.i64 g.3.3, Value.slice (some (Addr.mk (0 : Nat) (0 : Nat) none)) (List.length g.1) (2 : Nat), Value.string g.3.4, Value.bool g.3.5, Value.bool g.3.6, Value.int IntKind.i64 g.3.7, Value.int IntKind.i64 g.3.8]) = Value.agg (Array.mk [Value.int IntKind.i64 g.3.1, Value.int IntKind.i64 g.3.2, Value.int IntKind.i64 g.3.3, Value.slice (some (Addr.mk (0 : Nat) (0 : Nat) none)) (List.length g.1) (2 : Nat), Value.string g.3.4, Value.bool g.3.5, Value.bool g.3.6, Value.int IntKind.i64 g.3.7, Value.int IntKind.i64 g.3.8])) ∧
          ((Value.agg (Array.mk [Value.int IntKind.i64 g.3.1, Value.int IntKind.i64 g.3.2, Value.int IntKind.i64 g.3.3, Value.slice (some (Addr.mk (0 : Nat) (0 : Nat) none)) (List.length g.1) (2 : Nat), Value.string g.3.4, Value.bool g.3.5, Value.bool g.3.6, Value.int IntKind.i64 g.3.7, Value.int IntKind.i64 g.3.8]) = Value.agg (Array.mk [Value.int IntKind.i64 g.3.1, Value.int IntKind.i64 g.3.2, Value.int IntKind.i64 g.3.3, Value.slice (some (Addr.mk (0 : Nat) (0 : Nat) none)) (List.length g.1) (2 : Nat), Value.string g.3.4, Value.bool g.3.5, Value.bool g.3.6, Value.int IntKind.i64 g.3.7, Value.int IntKind.i64 g.3.8])) ∧
          ((Value.agg (Array.mk [Value.int IntKind.i64 g.3.1, Value.int IntKind.i64 g.3.2, Value.int IntKind.i64 g.3.3, Value.slice (some (Addr.mk (0 : Nat) (0 : Nat) none)) (List.length g.1) (2 : Nat), Value.string g.3.4, Value.bool g.3.5, Value.bool g.3.6, Value.int IntKind.i64 g.3.7, Value.int IntKind.i64 g.3.8]) = Value.agg (Array.mk [Value.int IntKind.i64 g.3.1, Value.int IntKind.i64 g.3.2, Value.int IntKind.i64 g.3.3, Value.slice (some (Addr.mk (0 : Nat) (0 : Nat) none)) (List.length g.1) (2 : Nat), Value.string g.3.4, Value.bool g.3.5, Value.bool g.3.6, Value.int IntKind.i64 g.3.7, Value.int IntKind.i64 g.3.8])) ∧
          ((Value.agg (Array.mk [Value.int IntKind.i64 g.3.1, Value.int IntKind.i64 g.3.2, Value.int IntKind.i64 g.3.3, Value.slice (some (Addr.mk (0 : Nat) (0 : Nat) none)) (List.length g.1) (2 : Nat), Value.string g.3.4, Value.bool g.3.5, Value.bool g.3.6, Value.int IntKind.i64 g.3.7, Value.int IntKind.i64 g.3.8]) = Value.agg (Array.mk [Value.int IntKind.i64 g.3.1, Value.int IntKind.i64 g.3.2, Value.int IntKind.i64 g.3.3, Value.slice (some (Addr.mk (0 : Nat) (0 : Nat) none)) (List.length g.1) (2 : Nat), Value.string g.3.4, Value.bool g.3.5, Value.bool g.3.6, Value.int IntKind.i64 g.3.7, Value.int IntKind.i64 g.3.8])) ∧
          ((Value.agg (Array.mk [Value.int IntKind.i64 g.3.1, Value.int IntKind.i64 g.3.2, Value.int IntKind.i64 g.3.3, Value.slice (some (Addr.mk (0 : Nat) (0 : Nat) none)) (List.length g.1) (2 : Nat), Value.string g.3.4, Value.bool g.3.5, Value.bool g.3.6, Value.int IntKind.i64 g.3.7, Value.int IntKind.i64 g.3.8]) = Value.agg (Array.mk [Value.int IntKind.i64 g.3.1, Value.int IntKind.i64 g.3.2, Value.int IntKind.i64 g.3.3, Value.slice (some (Addr.mk (0 : Nat) (0 : Nat) none)) (List.length g.1) (2 : Nat), Value.string g.3.4, Value.bool g.3.5, Value.bool g.3.6, Value.int IntKind.i64 g.3.7, Value.int IntKind.i64 g.3.8])) ∧
          ((true = false) ∧
          ((Eq (α := List Value) (gC enF l) (gC enF g.1)) ∧
          ((Plain (gC enF l)) ∧
          True))))))))))
        (br (storR (Row.mk (List.take (List.length g.1 * (2 : Nat)) (List.drop (0 : Nat) (gC enF g.1))) true (Ob.cells true)) g.3.4 == false)
         (((True ∧ (True ∧ (True ∧ True)))) ∧
         ((Value.agg (Array.mk [Value.int IntKind.i64 g.3.1, Value.int IntKind.i64 g.3.2, Value.int IntKind.i64 g.3.3, Value.slice (some (Addr.mk (0 : Nat) (0 : Nat) none)) (List.length g.1) (2 : Nat), Value.string g.3.4, Value.bool g.3.5, Value.bool g.3.6, Value.int IntKind.i64 g.3.7, Value.int IntKind.i64 g.3.8]) = Value.agg (Array.mk [Value.int IntKind.i64 g.3.1, Value.int IntKind.i64 g.3.2, Value.int IntKind.i64 g.3.3, Value.slice (some (Addr.mk (0 : Nat) (0 : Nat) none)) (List.length g.1) (2 : Nat), Value.string g.3.4, Value.bool g.3.5, Value.bool g.3.6, Value.int IntKind.i64 g.3.7, Value.int IntKind.i64 g.3.8])) ∧
         ((Value.agg (Array.mk [Value.int IntKind.i64 g.3.1, Value.int IntKind.i64 g.3.2, Value.int IntKind.i64 g.3.3, Value.slice (some (Addr.mk (0 : Nat) (0 : Nat) none)) (List.length g.1) (2 : Nat), Value.string g.3.4, Value.bool g.3.5, Value.bool g.3.6, Value.int IntKind.i64 g.3.7, Value.int IntKind.i64 g.3.8]) = Value.agg (Array.mk [Value.int IntKind.i64 g.3.1, Value.int IntKind.i64 g.3.2, Value.int IntKind.i64 g.3.3, Value.slice (some (Addr.mk (0 : Nat) (0 : Nat) none)) (List.length g.1) (2 : Nat), Value.string g.3.4, Value.bool g.3.5, Value.bool g.3.6, Value.int IntKind.i64 g.3.7, Value.int IntKind.i64 g.3.8])) ∧
         ((Value.agg (Array.mk [Value.int IntKind.i64 g.3.1, Value.int IntKind.i64 g.3.2, Value.int IntKind.i64 g.3.3, Value.slice (some (Addr.mk (0 : Nat) (0 : Nat) none)) (List.length g.1) (2 : Nat), Value.string g.3.4, Value.bool g.3.5, Value.bool g.3.6, Value.int IntKind.i64 g.3.7, Value.int IntKind.i64 g.3.8]) = Value.agg (Array.mk [Value.int IntKind.i64 g.3.1, Value.int IntKind.i64 g.3.2, Value.int IntKind.i64 g.3.3, Value.slice (some (Addr.mk (0 : Nat) (0 : Nat) none)) (List.length g.1) (2 : Nat), Value.string g.3.4, Value.bool g.3.5, Value.bool g.3.6, Value.int IntKind.i64 g.3.7, Value.int IntKind.i64 g.3.8])) ∧
         ((Value.agg (Array.mk [Value.int IntKind.i64 g.3.1, Value.int IntKind.i64 g.3.2, Value.int IntKind.i64 g.3.3, Value.slice (some (Addr.mk (0 : Nat) (0 : Nat) none)) (List.length g.1) (2 : Nat), Value.string g.3.4, Value.bool g.3.5, Value.bool g.3.6, Value.int IntKind.i64 g.3.7, Value.int IntKind.i64 g.3.8]) = Value.agg (Array.mk [Value.int IntKind.i64 g.3.1, Value.int IntKind.i64 g.3.2, Value.int IntKind.i64 g.3.3, Value.slice (some (Addr.mk (0 : Nat) (0 : Nat) none)) (List.length g.1) (2 : Nat), Value.string g.3.4, Value.bool g.3.5, Value.bool g.3.6, Value.int IntKind.i64 g.3.7, Value.int IntKind.i64 g.3.8])) ∧
         ((Value.agg (Array.mk [Value.int IntKind.i64 g.3.1, Value.int IntKind.i64 g.3.2, Value.int IntKind.i64 g.3.3, Value.slice (some (Addr.mk (0 : Nat) (0 : Nat) none)) (List.length g.1) (2 : Nat), Value.string g.3.4, Value.bool g.3.5, Value.bool g.3.6, Value.int IntKind.i64 g.3.7, Value.int IntKind.i64 g.3.8]) = Value.agg (Array.mk [Value.int IntKind.i64 g.3.1, Value.int IntKind.i64 g.3.2, Value.int IntKind.i64 g.3.3, Value.slice (some (Addr.mk (0 : Nat) (0 : Nat) none)) (List.length g.1) (2 : Nat), Value.string g.3.4, Value.bool g.3.5, Value.bool g.3.6, Value.int IntKind.i64 g.3.7, Value.int IntKind.i64 g.3.8])) ∧
         ((true = true) ∧
         ((Eq (α := List Value) (gC enF l) (gC enF g.1)) ∧
         ((Plain (gC enF l)) ∧
         True)))))))))
         ((Value.agg (Array.mk [Value.int IntKind.i64 g.3.1, Value.int IntKind.i64 g.3.2, Value.int IntKind.i64 g.3.3, Value.slice (some (Addr.mk (0 : Nat) (0 : Nat) none)) (List.length g.1) (2 : Nat), Value.string g.3.4, Value.bool g.3.5, Value.bool g.3.6, Value.int IntKind.i64 g.3.7, Value.int IntKind.i64 g.3.8]) = Value.agg (Array.mk [Value.int IntKind.i64 g.3.1, Value.int IntKind.i64 g.3.2, Value.int IntKind.i64 g.3.3, Value.slice (some (Addr.mk (0 : Nat) (0 : Nat) none)) (List.length g.1) (2 : Nat), Value.string g.3.4, Value.bool g.3.5, Value.bool g.3.6, Value.int IntKind.i64 g.3.7, Value.int IntKind.i64 g.3.8])) ∧
         ((Value.agg (Array.mk [Value.int IntKind.i64 g.3.1, Value.int IntKind.i64 g.3.2, Value.int IntKind.i64 g.3.3, Value.slice (some (Addr.mk (0 : Nat) (0 : Nat) none)) (List.length g.1) (2 : Nat), Value.string g.3.4, Value.bool g.3.5, Value.bool g.3.6, Value.int IntKind.i64 g.3.7, Value.int IntKind.i64 g.3.8]) = Value.agg (Array.mk [Value.int IntKind.i64 g.3.1, Value.int IntKind.i64 g.3.2, Value.int IntKind.i64 g.3.3, Value.slice (some (Addr.mk (0 : Nat) (0 : Nat) none)) (List.length g.1) (2 : Nat), Value.string g.3.4, Value.bool g.3.5, Value.bool g.3.6, Value.int IntKind.i64 g.3.7, Value.int IntKind.i64 g.3.8])) ∧
         ((Value.agg (Array.mk [Value.int IntKind.i64 g.3.1, Value.int IntKind.i64 g.3.2, Value.int IntKind.i64 g.3.3, Value.slice (some (Addr.mk (0 : Nat) (0 : Nat) none)) (List.length g.1) (2 : Nat), Value.string g.3.4, Value.bool g.3.5, Value.bool g.3.6, Value.int IntKind.i64 g.3.7, Value.int IntKind.i64 g.3.8]) = Value.agg (Array.mk [Value.int IntKind.i64 g.3.1, Value.int IntKind.i64 g.3.2, Value.int IntKind.i64 g.3.3, Value.slice (some (Addr.mk (0 : Nat) (0 : Nat) none)) (List.length g.1) (2 : Nat), Value.string g.3.4, Value.bool g.3.5, Value.bool g.3.6, Value.int IntKind.i64 g.3.7, Value.int IntKind.i64 g.3.8])) ∧
         ((Value.agg (Array.mk [Value.int IntKind.i64 g.3.1, Value.int IntKind.i64 g.3.2, Value.int IntKind.i64 g.3.3, Value.slice (some (Addr.mk (0 : Nat) (0 : Nat) none)) (List.length g.1) (2 : Nat), Value.string g.3.4, Value.bool g.3.5, Value.bool g.3.6, Value.int IntKind.i64 g.3.7, Value.int IntKind.i64 g.3.8]) = Value.agg (Array.mk [Value.int IntKind.i64 g.3.1, Value.int IntKind.i64 g.3.2, Value.int IntKind.i64 g.3.3, Value.slice (some (Addr.mk (0 : Nat) (0 : Nat) none)) (List.length g.1) (2 : Nat), Value.string g.3.4, Value.bool g.3.5, Value.bool g.3.6, Value.int IntKind.i64 g.3.7, Value.int IntKind.i64 g.3.8])) ∧
         ((Value.agg (Array.mk [Value.int IntKind.i64 g.3.1, Value.int IntKind.i64 g.3.2, Value.int IntKind.i64 g.3.3, Value.slice (some (Addr.mk (0 : Nat) (0 : Nat) none)) (List.length g.1) (2 : Nat), Value.string g.3.4, Value.bool g.3.5, Value.bool g.3.6, Value.int IntKind.i64 g.3.7, Value.int IntKind.i64 g.3.8]) = Value.agg (Array.mk [Value.int IntKind.i64 g.3.1, Value.int IntKind.i64 g.3.2, Value.int IntKind.i64 g.3.3, Value.slice (some (Addr.mk (0 : Nat) (0 : Nat) none)) (List.length g.1) (2 : Nat), Value.string g.3.4, Value.bool g.3.5, Value.bool g.3.6, Value.int IntKind.i64 g.3.7, Value.int IntKind.i64 g.3.8])) ∧
         ((true = false) ∧
         ((Eq (α := List Value) (gC enF l) (gC enF g.1)) ∧
         ((Plain (gC enF l)) ∧
         True)))))))))))
       ((Value.agg (Array.mk [Value.int IntKind.i64 g.3.1, Value.int IntKind.i64 g.3.2, Value.int IntKind.i64 g.3.3, Value.slice (some (Addr.mk (0 : Nat) (0 : Nat) none)) (List.length g.1) (2 : Nat), Value.string g.3.4, Value.bool g.3.5, Value.bool g.3.6, Value.int IntKind.i64 g.3.7, Value.int IntKind.i64 g.3.8]) = Value.agg (Array.mk [Value.int IntKind.i64 g.3.1, Value.int IntKind.i64 g.3.2, Value.int IntKind.i64 g.3.3, Value.slice (some (Addr.mk (0 : Nat) (0 : Nat) none)) (List.length g.1) (2 : Nat), Value.string g.3.4, Value.bool g.3.5, Value.bool g.3.6, Value.int IntKind.i64 g.3.7, Value.int IntKind.i64 g.3.8])) ∧
       ((Value.agg (Array.mk [Value.int IntKind.i64 g.3.1, Value.int IntKind.i64 g.3.2, Value.int IntKind.i64 g.3.3, Value.slice (some (Addr.mk (0 : Nat) (0 : Nat) none)) (List.length g.1) (2 : Nat), Value.string g.3.4, Value.bool g.3.5, Value.bool g.3.6, Value.int IntKind.i64 g.3.7, Value.int IntKind.i64 g.3.8]) = Value.agg (Array.mk [Value.int IntKind.i64 g.3.1, Value.int IntKind.i64 g.3.2, Value.int IntKind.i64 g.3.3, Value.slice (some (Addr.mk (0 : Nat) (0 : Nat) none)) (List.length g.1) (2 : Nat), Value.string g.3.4, Value.bool g.3.5, Value.bool g.3.6, Value.int IntKind.i64 g.3.7, Value.int IntKind.i64 g.3.8])) ∧
       ((Value.agg (Array.mk [Value.int IntKind.i64 g.3.1, Value.int IntKind.i64 g.3.2, Value.int IntKind.i64 g.3.3, Value.slice (some (Addr.mk (0 : Nat) (0 : Nat) none)) (List.length g.1) (2 : Nat), Value.string g.3.4, Value.bool g.3.5, Value.bool g.3.6, Value.int IntKind.i64 g.3.7, Value.int IntKind.i64 g.3.8]) = Value.agg (Array.mk [Value.int IntKind.i64 g.3.1, Value.int IntKind.i64 g.3.2, Value.int IntKind.i64 g.3.3, Value.slice (some (Addr.mk (0 : Nat) (0 : Nat) none)) (List.length g.1) (2 : Nat), Value.string g.3.4, Value.bool g.3.5, Value.bool g.3.6, Value.int IntKind.i64 g.3.7, Value.int IntKind.i64 g.3.8])) ∧
       ((Value.agg (Array.mk [Value.int IntKind.i64 g.3.1, Value.int IntKind.i64 g.3.2, Value.int IntKind.i64 g.3.3, Value.slice (some (Addr.mk (0 : Nat) (0 : Nat) none)) (List.length g.1) (2 : Nat), Value.string g.3.4, Value.bool g.3.5, Value.bool g.3.6, Value.int IntKind.i64 g.3.7, Value.int IntKind.i64 g.3.8]) = Value.agg (Array.mk [Value.int IntKind.i64 g.3.1, Value.int IntKind.i64 g.3.2, Value.int IntKind.i64 g.3.3, Value.slice (some (Addr.mk (0 : Nat) (0 : Nat) none)) (List.length g.1) (2 : Nat), Value.string g.3.4, Value.bool g.3.5, Value.bool g.3.6, Value.int IntKind.i64 g.3.7, Value.int IntKind.i64 g.3.8])) ∧
       ((true = false) ∧
       ((Eq (α := List Value) (gC enF l) (gC enF g.1)) ∧
       ((Plain (gC enF l)) ∧
       True)))))))))
      ((Value.agg (Array.mk [Value.int IntKind.i64 g.3.1, Value.int IntKind.i64 g.3.2, Value.int IntKind.i64 g.3.3, Value.slice (some (Addr.mk (0 : Nat) (0 : Nat) none)) (List.length g.1) (2 : Nat), Value.string g.3.4, Value.bool g.3.5, Value.bool g.3.6, Value.int IntKind.i64 g.3.7, Value.int IntKind.i64 g.3.8]) = Value.agg (Array.mk [Value.int IntKind.i64 g.3.1, Value.int IntKind.i64 g.3.2, Value.int IntKind.i64 g.3.3, Value.slice (some (Addr.mk (0 : Nat) (0 : Nat) none)) (List.length g.1) (2 : Nat), Value.string g.3.4, Value.bool g.3.5, Value.bool g.3.6, Value.int IntKind.i64 g.3.7, Value.int IntKind.i64 g.3.8])) ∧
      ((Value.agg (Array.mk [Value.int IntKind.i64 g.3.1, Value.int IntKind.i64 g.3.2, Value.int IntKind.i64 g.3.3, Value.slice (some (Addr.mk (0 : Nat) (0 : Nat) none)) (List.length g.1) (2 : Nat), Value.string g.3.4, Value.bool g.3.5, Value.bool g.3.6, Value.int IntKind.i64 g.3.7, Value.int IntKind.i64 g.3.8]) = Value.agg (Array.mk [Value.int IntKind.i64 g.3.1, Value.int IntKind.i64 g.3.2, Value.int IntKind.i64 g.3.3, Value.slice (some (Addr.mk (0 : Nat) (0 : Nat) none)) (List.length g.1) (2 : Nat), Value.string g.3.4, Value.bool g.3.5, Value.bool g.3.6, Value.int IntKind.i64 g.3.7, Value.int IntKind.i64 g.3.8])) ∧
      ((Value.agg (Array.mk [Value.int IntKind.i64 g.3.1, Value.int IntKind.i64 g.3.2, Value.int IntKind.i64 g.3.3, Value.slice (some (Addr.mk (0 : Nat) (0 : Nat) none)) (List.length g.1) (2 : Nat), Value.string g.3.4, Value.bool g.3.5, Value.bool g.3.6, Value.int IntKind.i64 g.3.7, Value.int IntKind.i64 g.3.8]) = Value.agg (Array.mk [Value.int IntKind.i64 g.3.1, Value.int IntKind.i64 g.3.2, Value.int IntKind.i64 g.3.3, Value.slice (some (Addr.mk (0 : Nat) (0 : Nat) none)) (List.length g.1) (2 : Nat), Value.string g.3.4, Value.bool g.3.5, Value.bool g.3.6, Value.int IntKind.i64 g.3.7, Value.int IntKind.i64 g.3.8])) ∧
      ((true = false) ∧
      ((Eq (α := List Value) (gC enF l) (gC enF g.1)) ∧
      ((Plain (gC enF l)) ∧
      True)))))))))
     ((true = false) ∧
     ((Eq (α := List Value) (gC enF l) (gC enF g.1)) ∧
     ((Plain (gC enF l)) ∧
     True))))
    ((true = false) ∧
    ((Eq (α := List Value) (gC enF l) (gC enF g.1)) ∧
    ((Plain (gC enF l)) ∧
    True)))))))))))))))))))))))))))))))) := by kernel_rfl
theorem LO_vc (y : TkY) (l : List Fl) (k : Int) : mcall EtLd noM 60 6 [.agg ⟨tkCy y 0 l.length⟩, .int .u16 k] ⟨mkR (nums 0 [gRo enF l]), 1⟩ (retIs 1 (.bool true) [gRo enF l]) =
  ((((((0 : Nat) + List.length l * (2 : Nat) ≤ List.length (gC enF l) ∧ Plain (List.take (List.length l * (2 : Nat)) (List.drop (0 : Nat) (gC enF l)))) ∧ True) ∧ ((True ∧ True) ∧ (True ∧ (IsF (Row.mk (List.take (List.length l * (2 : Nat)) (List.drop (0 : Nat) (gC enF l))) true (Ob.cells true)) (List.length l) ∧ (List.length l ≤ (1048576 : Nat) ∧ ShR (Row.mk (List.take (List.length l * (2 : Nat)) (List.drop (0 : Nat) (gC enF l))) true (Ob.cells true)))))))) ∧
  (br (!lgR (Row.mk (List.take (List.length l * (2 : Nat)) (List.drop (0 : Nat) (gC enF l))) true (Ob.cells true)))
   (((True ∧ (True ∧ (True ∧ True)))) ∧
   ((true = true) ∧
   ((Eq (α := List Value) (gC enF l) (gC enF l)) ∧
   ((Plain (gC enF l)) ∧
   True))))
   (((((True ∧ (True ∧ (True ∧ (((0 : Nat) + List.length l * (2 : Nat) ≤ List.length (gC enF l) ∧ Plain (List.take (List.length l * (2 : Nat)) (List.drop (0 : Nat) (gC enF l)))) ∧ (True ∧ (True ∧ (True ∧ (True ∧ (True ∧ True))))))))) ∧ True) ∧ ((True ∧ True) ∧ (True ∧ (IsF (Row.mk (List.take (List.length l * (2 : Nat)) (List.drop (0 : Nat) (gC enF l))) true (Ob.cells true)) (List.length l) ∧ List.length l ≤ (9223372036854775807 : Nat)))))) ∧
   (((((True ∧ (True ∧ (True ∧ (((0 : Nat) + List.length l * (2 : Nat) ≤ List.length (gC enF l) ∧ Plain (List.take (List.length l * (2 : Nat)) (List.drop (0 : Nat) (gC enF l)))) ∧ (True ∧ (True ∧ (True ∧ (True ∧ (True ∧ True))))))))) ∧ True) ∧ ((True ∧ True) ∧ (True ∧ (IsF (Row.mk (List.take (List.length l * (2 : Nat)) (List.drop (0 : Nat) (gC enF l))) true (Ob.cells true)) (List.length l) ∧ List.length l ≤ (9223372036854775807 : Nat)))))) ∧
   ((Value.agg (Array.mk [Value.int IntKind.i64 y.1, Value.int IntKind.i64 y.2, Value.int IntKind.i64 y.3, Value.slice (some (Addr.mk (0 : Nat) (0 : Nat) none)) (List.length l) (2 : Nat), Value.string y.4, Value.bool y.5, Value.bool y.6, Value.int IntKind.i64 y.7, Value.int IntKind.i64 y.8]) = Value.agg (Array.mk [Value.int IntKind.i64 y.1, Value.int IntKind.i64 y.2, Value.int IntKind.i64 y.3, Value.slice (some (Addr.mk (0 : Nat) (0 : Nat) none)) (List.length l) (2 : Nat), Value.string y.4, Value.bool y.5, Value.bool y.6, Value.int IntKind.i64 y.7, Value.int IntKind.i64 y.8])) ∧
   ((Value.agg (Array.mk [Value.int IntKind.i64 y.1, Value.int IntKind.i64 y.2, Value.int IntKind.i64 y.3, Value.slice (some (Addr.mk (0 : Nat) (0 : Nat) none)) (List.length l) (2 : Nat), Value.string y.4, Value.bool y.5, Value.bool y.6, Value.int IntKind.i64 y.7, Value.int IntKind.i64 y.8]) = Value.agg (Array.mk [Value.int IntKind.i64 y.1, Value.int IntKind.i64 y.2, Value.int IntKind.i64 y.3, Value.slice (some (Addr.mk (0 : Nat) (0 : Nat) none)) (List.length l) (2 : Nat), Value.string y.4, Value.bool y.5, Value.bool y.6, Value.int IntKind.i64 y.7, Value.int IntKind.i64 y.8])) ∧
   ((Value.agg (Array.mk [Value.int IntKind.i64 y.1, Value.int IntKind.i64 y.2, Value.int IntKind.i64 y.3, Value.slice (some (Addr.mk (0 : Nat) (0 : Nat) none)) (List.length l) (2 : Nat), Value.string y.4, Value.bool y.5, Value.bool y.6, Value.int IntKind.i64 y.7, Value.int IntKind.i64 y.8]) = Value.agg (Array.mk [Value.int IntKind.i64 y.1, Value.int IntKind.i64 y.2, Value.int IntKind.i64 y.3, Value.slice (some (Addr.mk (0 : Nat) (0 : Nat) none)) (List.length l) (2 : Nat), Value.string y.4, Value.bool y.5, Value.bool y.6, Value.int IntKind.i64 y.7, Value.int IntKind.i64 y.8])) ∧
   (((((True ∧ (True ∧ (True ∧ (((0 : Nat) + List.length l * (2 : Nat) ≤ List.length (gC enF l) ∧ Plain (List.take (List.length l * (2 : Nat)) (List.drop (0 : Nat) (gC enF l)))) ∧ (True ∧ (True ∧ (True ∧ (True ∧ (True ∧ True))))))))) ∧ (True ∧ True)) ∧ ((True ∧ True) ∧ (True ∧ (IsF (Row.mk (List.take (List.length l * (2 : Nat)) (List.drop (0 : Nat) (gC enF l))) true (Ob.cells true)) (List.length l) ∧ List.length l ≤ (9223372036854775807 : Nat)))))) ∧
   ((Value.string (ByteArray.mk #[(58 : UInt8), (115 : UInt8), (116 : UInt8), (97 : UInt8), (116 : UInt8), (117 : UInt8), (115 : UInt8)]) = Value.string (ByteArray.mk #[(58 : UInt8), (115 : UInt8), (116 : UInt8), (97 : UInt8), (116 : UInt8), (117 : UInt8), (115 : UInt8)])) ∧
   ((Value.string (ByteArray.mk (Array.mk [UInt8.ofNat (Int.toNat (IntKind.wrap IntKind.u8 (IntKind.wrap IntKind.i64 ((48 : Int) + IntKind.wrap IntKind.i64 (Int.tdiv (IntKind.wrap IntKind.i64 (Int.tmod k (1000 : Int))) (100 : Int)))))), UInt8.ofNat (Int.toNat (IntKind.wrap IntKind.u8 (IntKind.wrap IntKind.i64 ((48 : Int) + Int.tmod (IntKind.wrap IntKind.i64 (Int.tdiv (IntKind.wrap IntKind.i64 (Int.tmod k (1000 : Int))) (10 : Int))) (10 : Int))))), UInt8.ofNat (Int.toNat (IntKind.wrap IntKind.u8 (IntKind.wrap IntKind.i64 ((48 : Int) + Int.tmod (IntKind.wrap IntKind.i64 (Int.tmod k (1000 : Int))) (10 : Int)))))])) = Value.string (ByteArray.mk (Array.mk [UInt8.ofNat (Int.toNat (IntKind.wrap IntKind.u8 (IntKind.wrap IntKind.i64 ((48 : Int) + IntKind.wrap IntKind.i64 (Int.tdiv (IntKind.wrap IntKind.i64 (Int.tmod k (1000 : Int))) (100 : Int)))))), UInt8.ofNat (Int.toNat (IntKind.wrap IntKind.u8 (IntKind.wrap IntKind.i64 ((48 : Int) + Int.tmod (IntKind.wrap IntKind.i64 (Int.tdiv (IntKind.wrap IntKind.i64 (Int.tmod k (1000 : Int))) (10 : Int))) (10 : Int))))), UInt8.ofNat (Int.toNat (IntKind.wrap IntKind.u8 (IntKind.wrap IntKind.i64 ((48 : Int) + Int.tmod (IntKind.wrap IntKind.i64 (Int.tmod k (1000 : Int))) (10 : Int)))))]))) ∧
   ((Value.string (ByteArray.mk #[(99 : UInt8), (111 : UInt8), (110 : UInt8), (116 : UInt8), (101 : UInt8), (110 : UInt8), (116 : UInt8), (45 : UInt8), (108 : UInt8), (101 : UInt8), (110 : UInt8), (103 : UInt8), (116 : UInt8), (104 : UInt8)]) = Value.string (ByteArray.mk #[(99 : UInt8), (111 : UInt8), (110 : UInt8), (116 : UInt8), (101 : UInt8), (110 : UInt8), (116 : UInt8), (45 : UInt8), (108 : UInt8), (101 : UInt8), (110 : UInt8), (103 : UInt8), (116 : UInt8), (104 : UInt8)])) ∧
   ((Value.string (ByteArray.mk #[(48 : UInt8)]) = Value.string (ByteArray.mk #[(48 : UInt8)])) ∧
   (((((True ∧ (True ∧ (True ∧ (((4 : Nat) ≤ (4 : Nat) ∧ Plain [Value.string (ByteArray.mk #[(58 : UInt8), (115 : UInt8), (116 : UInt8), (97 : UInt8), (116 : UInt8), (117 : UInt8), (115 : UInt8)]), Value.string (ByteArray.mk (Array.mk [UInt8.ofNat (Int.toNat (IntKind.wrap IntKind.u8 (IntKind.wrap IntKind.i64 ((48 : Int) + IntKind.wrap IntKind.i64 (Int.tdiv (IntKind.wrap IntKind.i64 (Int.tmod k (1000 : Int))) (100 : Int)))))), UInt8.ofNat (Int.toNat (IntKind.wrap IntKind.u8 (IntKind.wrap IntKind.i64 ((48 : Int) + Int.tmod (IntKind.wrap IntKind.i64 (Int.tdiv (IntKind.wrap IntKind.i64 (Int.tmod k (1000 : Int))) (10 : Int))) (10 : Int))))), UInt8.ofNat (Int.toNat (IntKind.wrap IntKind.u8 (IntKind.wrap IntKind.i64 ((48 : Int) + Int.tmod (IntKind.wrap IntKind.i64 (Int.tmod k (1000 : Int))) (10 : Int)))))])), Value.string (ByteArray.mk #[(99 : UInt8), (111 : UInt8), (110 : UInt8), (116 : UInt8), (101 : UInt8), (110 : UInt8), (116 : UInt8), (45 : UInt8), (108 : UInt8), (101 : UInt8), (110 : UInt8), (103 : UInt8), (116 : UInt8), (104 : UInt8)]), Value.string (ByteArray.mk #[(48 : UInt8)])]) ∧ (True ∧ (True ∧ (True ∧ (True ∧ (True ∧ True))))))))) ∧ True) ∧ ((True ∧ True) ∧ (True ∧ (IsF (Row.mk [Value.string (ByteArray.mk #[(58 : UInt8), (115 : UInt8), (116 : UInt8), (97 : UInt8), (116 : UInt8), (117 : UInt8), (115 : UInt8)]), Value.string (ByteArray.mk (Array.mk [UInt8.ofNat (Int.toNat (IntKind.wrap IntKind.u8 (IntKind.wrap IntKind.i64 ((48 : Int) + IntKind.wrap IntKind.i64 (Int.tdiv (IntKind.wrap IntKind.i64 (Int.tmod k (1000 : Int))) (100 : Int)))))), UInt8.ofNat (Int.toNat (IntKind.wrap IntKind.u8 (IntKind.wrap IntKind.i64 ((48 : Int) + Int.tmod (IntKind.wrap IntKind.i64 (Int.tdiv (IntKind.wrap IntKind.i64 (Int.tmod k (1000 : Int))) (10 : Int))) (10 : Int))))), UInt8.ofNat (Int.toNat (IntKind.wrap IntKind.u8 (IntKind.wrap IntKind.i64 ((48 : Int) + Int.tmod (IntKind.wrap IntKind.i64 (Int.tmod k (1000 : Int))) (10 : Int)))))])), Value.string (ByteArray.mk #[(99 : UInt8), (111 : UInt8), (110 : UInt8), (116 : UInt8), (101 : UInt8), (110 : UInt8), (116 : UInt8), (45 : UInt8), (108 : UInt8), (101 : UInt8), (110 : UInt8), (103 : UInt8), (116 : UInt8), (104 : UInt8)]), Value.string (ByteArray.mk #[(48 : UInt8)])] true (Ob.cells true)) (2 : Nat) ∧ (1 : Nat) + (1 : Nat) ≤ maxLen))))) ∧
   (br (!ownR (Row.mk (List.take (List.length l * (2 : Nat)) (List.drop (0 : Nat) (gC enF l))) true (Ob.cells true)) y.4)
    (br (IntKind.wrap IntKind.i64 (Int.tmod k (1000 : Int)) == (502 : Int))
     (br (ownR (Row.mk [Value.string (ByteArray.mk #[(58 : UInt8), (115 : UInt8), (116 : UInt8), (97 : UInt8), (116 : UInt8), (117 : UInt8), (115 : UInt8)]), Value.string (ByteArray.mk (Array.mk [UInt8.ofNat (Int.toNat (IntKind.wrap IntKind.u8 (IntKind.wrap IntKind.i64 ((48 : Int) + IntKind.wrap IntKind.i64 (Int.tdiv (IntKind.wrap IntKind.i64 (Int.tmod k (1000 : Int))) (100 : Int)))))), UInt8.ofNat (Int.toNat (IntKind.wrap IntKind.u8 (IntKind.wrap IntKind.i64 ((48 : Int) + Int.tmod (IntKind.wrap IntKind.i64 (Int.tdiv (IntKind.wrap IntKind.i64 (Int.tmod k (1000 : Int))) (10 : Int))) (10 : Int))))), UInt8.ofNat (Int.toNat (IntKind.wrap IntKind.u8 (IntKind.wrap IntKind.i64 ((48 : Int) + Int.tmod (IntKind.wrap IntKind.i64 (Int.tmod k (1000 : Int))) (10 : Int)))))])), Value.string (ByteArray.mk #[(99 : UInt8), (111 : UInt8), (110 : UInt8), (116 : UInt8), (101 : UInt8), (110 : UInt8), (116 : UInt8), (45 : UInt8), (108 : UInt8), (101 : UInt8), (110 : UInt8), (103 : UInt8), (116 : UInt8), (104 : UInt8)]), Value.string (ByteArray.mk #[(48 : UInt8)])] true (Ob.cells true)) (ByteArray.mk #[]) == true)
      (((True ∧ (True ∧ (True ∧ True)))) ∧
      ((true = true) ∧
      ((Eq (α := List Value) (gC enF l) (gC enF l)) ∧
      ((Plain (gC enF l)) ∧
      True))))
      ((true = false) ∧
      ((Eq (α := List Value) (gC enF l) (gC enF l)) ∧
      ((Plain (gC enF l)) ∧
      True))))
     (br (IntKind.wrap IntKind.i64 (Int.tmod k (1000 : Int)) == (503 : Int))
      (br (ownR (Row.mk [Value.string (ByteArray.mk #[(58 : UInt8), (115 : UInt8), (116 : UInt8), (97 : UInt8), (116 : UInt8), (117 : UInt8), (115 : UInt8)]), Value.string (ByteArray.mk (Array.mk [UInt8.ofNat (Int.toNat (IntKind.wrap IntKind.u8 (IntKind.wrap IntKind.i64 ((48 : Int) + IntKind.wrap IntKind.i64 (Int.tdiv (IntKind.wrap IntKind.i64 (Int.tmod k (1000 : Int))) (100 : Int)))))), UInt8.ofNat (Int.toNat (IntKind.wrap IntKind.u8 (IntKind.wrap IntKind.i64 ((48 : Int) + Int.tmod (IntKind.wrap IntKind.i64 (Int.tdiv (IntKind.wrap IntKind.i64 (Int.tmod k (1000 : Int))) (10 : Int))) (10 : Int))))), UInt8.ofNat (Int.toNat (IntKind.wrap IntKind.u8 (IntKind.wrap IntKind.i64 ((48 : Int) + Int.tmod (IntKind.wrap IntKind.i64 (Int.tmod k (1000 : Int))) (10 : Int)))))])), Value.string (ByteArray.mk #[(99 : UInt8), (111 : UInt8), (110 : UInt8), (116 : UInt8), (101 : UInt8), (110 : UInt8), (116 : UInt8), (45 : UInt8), (108 : UInt8), (101 : UInt8), (110 : UInt8), (103 : UInt8), (116 : UInt8), (104 : UInt8)]), Value.string (ByteArray.mk #[(48 : UInt8)])] true (Ob.cells true)) (ByteArray.mk #[]) == true)
       (((True ∧ (True ∧ (True ∧ True)))) ∧
       ((true = true) ∧
       ((Eq (α := List Value) (gC enF l) (gC enF l)) ∧
       ((Plain (gC enF l)) ∧
       True))))
       ((true = false) ∧
       ((Eq (α := List Value) (gC enF l) (gC enF l)) ∧
       ((Plain (gC enF l)) ∧
       True))))
      (br (ownR (Row.mk [Value.string (ByteArray.mk #[(58 : UInt8), (115 : UInt8), (116 : UInt8), (97 : UInt8), (116 : UInt8), (117 : UInt8), (115 : UInt8)]), Value.string (ByteArray.mk (Array.mk [UInt8.ofNat (Int.toNat (IntKind.wrap IntKind.u8 (IntKind.wrap IntKind.i64 ((48 : Int) + IntKind.wrap IntKind.i64 (Int.tdiv (IntKind.wrap IntKind.i64 (Int.tmod k (1000 : Int))) (100 : Int)))))), UInt8.ofNat (Int.toNat (IntKind.wrap IntKind.u8 (IntKind.wrap IntKind.i64 ((48 : Int) + Int.tmod (IntKind.wrap IntKind.i64 (Int.tdiv (IntKind.wrap IntKind.i64 (Int.tmod k (1000 : Int))) (10 : Int))) (10 : Int))))), UInt8.ofNat (Int.toNat (IntKind.wrap IntKind.u8 (IntKind.wrap IntKind.i64 ((48 : Int) + Int.tmod (IntKind.wrap IntKind.i64 (Int.tmod k (1000 : Int))) (10 : Int)))))])), Value.string (ByteArray.mk #[(99 : UInt8), (111 : UInt8), (110 : UInt8), (116 : UInt8), (101 : UInt8), (110 : UInt8), (116 : UInt8), (45 : UInt8), (108 : UInt8), (101 : UInt8), (110 : UInt8), (103 : UInt8), (116 : UInt8), (104 : UInt8)]), Value.string (ByteArray.mk #[(48 : UInt8)])] true (Ob.cells true)) (ByteArray.mk #[]) == (IntKind.wrap IntKind.i64 (Int.tmod k (1000 : Int)) == (504 : Int)))
       (((True ∧ (True ∧ (True ∧ True)))) ∧
       ((true = true) ∧
       ((Eq (α := List Value) (gC enF l) (gC enF l)) ∧
       ((Plain (gC enF l)) ∧
       True))))
       ((true = false) ∧
       ((Eq (α := List Value) (gC enF l) (gC enF l)) ∧
       ((Plain (gC enF l)) ∧
       True))))))
    (br (strEq y.4 (ByteArray.mk #[]))
     (br (!fsB (Row.mk (List.take (List.length l * (2 : Nat)) (List.drop (0 : Nat) (gC enF l))) true (Ob.cells true)) (ByteArray.mk #[(118 : UInt8), (105 : UInt8), (97 : UInt8)]))
      (br (!storR (Row.mk (List.take (List.length l * (2 : Nat)) (List.drop (0 : Nat) (gC enF l))) true (Ob.cells true)) y.4)
       (br (Int.ofNat (List.length l) == (2 : Int))
        (br (IntKind.wrap IntKind.i64 (Int.tmod k (1000 : Int)) == (502 : Int))
         (br (ownR (Row.mk [Value.string (ByteArray.mk #[(58 : UInt8), (115 : UInt8), (116 : UInt8), (97 : UInt8), (116 : UInt8), (117 : UInt8), (115 : UInt8)]), Value.string (ByteArray.mk (Array.mk [UInt8.ofNat (Int.toNat (IntKind.wrap IntKind.u8 (IntKind.wrap IntKind.i64 ((48 : Int) + IntKind.wrap IntKind.i64 (Int.tdiv (IntKind.wrap IntKind.i64 (Int.tmod k (1000 : Int))) (100 : Int)))))), UInt8.ofNat (Int.toNat (IntKind.wrap IntKind.u8 (IntKind.wrap IntKind.i64 ((48 : Int) + Int.tmod (IntKind.wrap IntKind.i64 (Int.tdiv (IntKind.wrap IntKind.i64 (Int.tmod k (1000 : Int))) (10 : Int))) (10 : Int))))), UInt8.ofNat (Int.toNat (IntKind.wrap IntKind.u8 (IntKind.wrap IntKind.i64 ((48 : Int) + Int.tmod (IntKind.wrap IntKind.i64 (Int.tmod k (1000 : Int))) (10 : Int)))))])), Value.string (ByteArray.mk #[(99 : UInt8), (111 : UInt8), (110 : UInt8), (116 : UInt8), (101 : UInt8), (110 : UInt8), (116 : UInt8), (45 : UInt8), (108 : UInt8), (101 : UInt8), (110 : UInt8), (103 : UInt8), (116 : UInt8), (104 : UInt8)]), Value.string (ByteArray.mk #[(48 : UInt8)])] true (Ob.cells true)) (ByteArray.mk #[]) == true)
          (((True ∧ (True ∧ (True ∧ True)))) ∧
          ((true = true) ∧
          ((Eq (α := List Value) (gC enF l) (gC enF l)) ∧
          ((Plain (gC enF l)) ∧
          True))))
          ((true = false) ∧
          ((Eq (α := List Value) (gC enF l) (gC enF l)) ∧
          ((Plain (gC enF l)) ∧
          True))))
         (br (IntKind.wrap IntKind.i64 (Int.tmod k (1000 : Int)) == (503 : Int))
          (br (ownR (Row.mk [Value.string (ByteArray.mk #[(58 : UInt8), (115 : UInt8), (116 : UInt8), (97 : UInt8), (116 : UInt8), (117 : UInt8), (115 : UInt8)]), Value.string (ByteArray.mk (Array.mk [UInt8.ofNat (Int.toNat (IntKind.wrap IntKind.u8 (IntKind.wrap IntKind.i64 ((48 : Int) + IntKind.wrap IntKind.i64 (Int.tdiv (IntKind.wrap IntKind.i64 (Int.tmod k (1000 : Int))) (100 : Int)))))), UInt8.ofNat (Int.toNat (IntKind.wrap IntKind.u8 (IntKind.wrap IntKind.i64 ((48 : Int) + Int.tmod (IntKind.wrap IntKind.i64 (Int.tdiv (IntKind.wrap IntKind.i64 (Int.tmod k (1000 : Int))) (10 : Int))) (10 : Int))))), UInt8.ofNat (Int.toNat (IntKind.wrap IntKind.u8 (IntKind.wrap IntKind.i64 ((48 : Int) + Int.tmod (IntKind.wrap IntKind.i64 (Int.tmod k (1000 : Int))) (10 : Int)))))])), Value.string (ByteArray.mk #[(99 : UInt8), (111 : UInt8), (110 : UInt8), (116 : UInt8), (101 : UInt8), (110 : UInt8), (116 : UInt8), (45 : UInt8), (108 : UInt8), (101 : UInt8), (110 : UInt8), (103 : UInt8), (116 : UInt8), (104 : UInt8)]), Value.string (ByteArray.mk #[(48 : UInt8)])] true (Ob.cells true)) (ByteArray.mk #[]) == true)
           (((True ∧ (True ∧ (True ∧ True)))) ∧
           ((true = true) ∧
           ((Eq (α := List Value) (gC enF l) (gC enF l)) ∧
           ((Plain (gC enF l)) ∧
           True))))
           ((true = false) ∧
           ((Eq (α := List Value) (gC enF l) (gC enF l)) ∧
           ((Plain (gC enF l)) ∧
           True))))
          (br (ownR (Row.mk [Value.string (ByteArray.mk #[(58 : UInt8), (115 : UInt8), (116 : UInt8), (97 : UInt8), (116 : UInt8), (117 : UInt8), (115 : UInt8)]), Value.string (ByteArray.mk (Array.mk [UInt8.ofNat (Int.toNat (IntKind.wrap IntKind.u8 (IntKind.wrap IntKind.i64 ((48 : Int) + IntKind.wrap IntKind.i64 (Int.tdiv (IntKind.wrap IntKind.i64 (Int.tmod k (1000 : Int))) (100 : Int)))))), UInt8.ofNat (Int.toNat (IntKind.wrap IntKind.u8 (IntKind.wrap IntKind.i64 ((48 : Int) + Int.tmod (IntKind.wrap IntKind.i64 (Int.tdiv (IntKind.wrap IntKind.i64 (Int.tmod k (1000 : Int))) (10 : Int))) (10 : Int))))), UInt8.ofNat (Int.toNat (IntKind.wrap IntKind.u8 (IntKind.wrap IntKind.i64 ((48 : Int) + Int.tmod (IntKind.wrap IntKind.i64 (Int.tmod k (1000 : Int))) (10 : Int)))))])), Value.string (ByteArray.mk #[(99 : UInt8), (111 : UInt8), (110 : UInt8), (116 : UInt8), (101 : UInt8), (110 : UInt8), (116 : UInt8), (45 : UInt8), (108 : UInt8), (101 : UInt8), (110 : UInt8), (103 : UInt8), (116 : UInt8), (104 : UInt8)]), Value.string (ByteArray.mk #[(48 : UInt8)])] true (Ob.cells true)) (ByteArray.mk #[]) == (IntKind.wrap IntKind.i64 (Int.tmod k (1000 : Int)) == (504 : Int)))
           (((True ∧ (True ∧ (True ∧ True)))) ∧
           ((true = true) ∧
           ((Eq (α := List Value) (gC enF l) (gC enF l)) ∧
           ((Plain (gC enF l)) ∧
           True))))
           ((true = false) ∧
           ((Eq (α := List Value) (gC enF l) (gC enF l)) ∧
           ((Plain (gC enF l)) ∧
           True))))))
        ((true = false) ∧
        ((Eq (α := List Value) (gC enF l) (gC enF l)) ∧
        ((Plain (gC enF l)) ∧
        True))))
       ((true = false) ∧
       ((Eq (α := List Value) (gC enF l) (gC enF l)) ∧
       ((Plain (gC enF l)) ∧
       True))))
      ((true = false) ∧
      ((Eq (α := List Value) (gC enF l) (gC enF l)) ∧
      ((Plain (gC enF l)) ∧
      True))))
     ((true = false) ∧
     ((Eq (α := List Value) (gC enF l) (gC enF l)) ∧
     ((Plain (gC enF l)) ∧
     True)))))))))))))))))) := by kernel_rfl
theorem n_lgR (l : List Fl) (b : Bool) (o : Ob) : lgR ⟨gC enF l, b, o⟩ = lgB l := by unfold lgR; simp only; rw [decF_gC]
theorem n_shR (l : List Fl) (b : Bool) (o : Ob) : ShR ⟨gC enF l, b, o⟩ = ShortF l := by unfold ShR; simp only; rw [decF_gC]
theorem eLgt_ok : EntOk Try.prog eLgt := entC_ok (by
  intro a rows p v news h hp
  split at h <;> simp only [Option.some.injEq, Prod.mk.injEq, reduceCtorEq] at h
  obtain ⟨rfl, rfl, rfl⟩ := h
  obtain ⟨⟨l, rfl, rfl⟩, h1, h2⟩ := hp
  simp only [ShR, lgR, dF, List.append_nil] at h2 ⊢
  exact Lg_con l h1 h2)
theorem eOr_ok : EntOk Try.prog eOr := entC_ok (by
  intro a rows p v news h hp
  split at h <;> simp only [Option.some.injEq, Prod.mk.injEq, reduceCtorEq] at h
  obtain ⟨rfl, rfl, rfl⟩ := h
  obtain ⟨⟨l, rfl, rfl⟩, h1⟩ := hp
  simp only [ownR, dF, List.append_nil]
  exact Or_con ⟨_, _, _, _, _, _, _, _⟩ l h1)
theorem eSd_ok : EntOk Try.prog eSd := entC_ok (by
  intro a rows p v news h hp
  split at h <;> simp only [Option.some.injEq, Prod.mk.injEq, reduceCtorEq] at h
  obtain ⟨rfl, rfl, rfl⟩ := h
  obtain ⟨⟨l, rfl, rfl⟩, h1⟩ := hp
  simp only [storR, dF, List.append_nil]
  exact Sd_con ⟨_, _, _, _, _, _, _, _⟩ l h1)
theorem eLdRuns_ok : EntOk Try.prog eLdRuns := entC_ok (by
  intro a rows p v news h hp
  split at h <;> simp only [Option.some.injEq, Prod.mk.injEq, reduceCtorEq] at h
  obtain ⟨rfl, rfl, rfl⟩ := h
  exact con_run mixed (n := 1000000) (by kernel_rfl) (by kernel_rfl))
theorem tLd_ok : ∀ x ∈ tLd, EntOk Try.prog x := all_cons eLgt_ok (all_cons eVa_ok (all_cons eOr_ok (all_cons eSt_ok (all_cons eSr_ok (all_cons eOw_ok (all_cons eSd_ok (all_cons eLdRuns_ok (all_nil))))))))
theorem LT_piece : PieceOk EtLd 1 (4, pLT, specLT) := by
  refine piece_loop mixed (calls_envT tLd_ok) (lok_envT _ _) lm_none (n := 60) (by kernel_rfl) (fun g : GVa => (⟨⟨#[]⟩, false, ⟨#[]⟩, false, false, g.l.length⟩ : StLT)) (fun g s => s.j ≤ g.l.length ∧ s = stOf g s.j) (fun g s => s.j) (sl := slLT) (rl := fun g _ => rlVr g) (fun g hg => ⟨Nat.le_refl _, by unfold stOf fsL agB; rw [List.drop_length]; rfl⟩) (fun g s hg hi => ?_)
  refine (LT_round g s _ _).mpr ?_
  obtain ⟨w, th, v, hs, ag, j⟩ := s
  obtain ⟨h1, h2⟩ := hi
  have hg : g.l.length ≤ 1048576 := hg
  simp only at h1 h2
  simp only [ofNat_eq, toNat_cast, Nat.zero_add, Nat.add_zero, Nat.mul_one, List.drop_zero, bCells_len, bCells_drop, bCells_take, bCells_app, bCells_one, bCells_plain, List.length_replicate, List.length_append, List.length_take, List.length_drop, List.take_length, and_true, true_and, and_self, decide_true, List.length_nil, List.length_cons, Nat.sub_zero, dB_mk, dB_ro, List.take_zero, fPl, fLen, fTake, h2]
  obtain _ | k := j
  · refine br_if (fun h => absurd h (by omega)) (fun h => ⟨(), ?_⟩)
    unfold stOf at h2
    simp only [StLT.mk.injEq, List.drop_zero, and_true] at h2
    obtain ⟨a1, a2, a3, a4, a5⟩ := h2
    exact ⟨a1.symm, a2.symm, a3.symm, a4.symm, a5.symm⟩
  · have hi : k < g.l.length := by omega
    unfold stOf at h2
    simp only [StLT.mk.injEq, and_true] at h2
    obtain ⟨a1, a2, a3, a4, a5⟩ := h2
    have ej : ((k + 1 : Nat) : Int) - 1 = (k : Int) := by omega
    have w8 : IntKind.i64.wrap ((k : Int) - 1) = (k : Int) - 1 := wr64_id (by unfold I64; omega)
    obtain ⟨c1, c2, c3, c4⟩ := fGet g.l k hi
    have q : (⟨#[118, 105, 97]⟩ : ByteArray) = bs sVia := rfl
    have q2 : (⟨#[97, 103, 101]⟩ : ByteArray) = bs sAge := rfl
    simp only [ej, Int.toNat_natCast, c1, c2, c3, c4, w8, true_and, q, q2, strEq_bs]
    have d1 := fstF_drop g.nm g.l k hi
    have d2 := fstF_drop sVia g.l k hi
    have d3 := fstF_drop sAge g.l k hi
    have ef : (stOf g k).j = k := rfl
    refine br_if (fun h => br_dec (by omega) ?_) (fun h => absurd h (by omega))
    refine br_if (fun k1 => br_if (fun k2 => br_intro (fun k3 => ?_) (fun k3 => ?_)) (fun k2 => br_intro (fun k3 => ?_) (fun k3 => ?_))) (fun k1 => br_if (fun k2 => br_intro (fun k3 => ?_) (fun k3 => ?_)) (fun k2 => br_intro (fun k3 => ?_) (fun k3 => ?_)))
    all_goals
      first
      | rw [if_pos k1] at d1
      | rw [if_neg k1] at d1
    all_goals
      first
      | rw [if_pos k2] at d2
      | rw [if_neg k2] at d2
    all_goals
      refine ⟨stOf g k, ⟨by rw [ef]; omega, rfl⟩, by rw [ef]; omega, ?_, ?_, ?_, ?_, ?_, rfl⟩
    all_goals
      unfold stOf
      simp only [fsL, agB]
      first
      | rw [d1]; first | rfl | rw [a1]; rfl | rw [a2]
      | rw [d2]; first | rfl | rw [a3]; rfl | rw [a4]
      | rw [d3]; rw [k3] at a5; split; rfl; exact a5.symm
      | rw [d3]; rw [k3] at a5; unfold agB at a5; split <;> simp_all
theorem ld_tells (p lf s : Int) (l : List Fl) (b : ByteArray) (e r : Bool) (c a : Int) (nm : ByteArray) (_ : I64 p) (_ : I64 lf) (_ : I64 s) (hl : l.length ≤ 1048576) (hs : ∀ f ∈ l, f.n.length ≤ 1048576 ∧ f.v.length ≤ 1048576) (_ : b.size ≤ 1048576) (_ : I64 c) (_ : I64 a) (_ : nm.size ≤ 1048576) : Con Try.prog 4 [.agg ⟨tkCy ⟨p, lf, s, b, e, r, c, a⟩ 0 l.length⟩, .string nm] [gRo enF l] (.bool true) [gRo enF l] := by
  obtain ⟨nm, rfl⟩ : ∃ l, nm = bs l := ⟨L nm, rfl⟩
  obtain ⟨b, rfl⟩ : ∃ l, b = bs l := ⟨L b, rfl⟩
  refine con_vc (E := EtLd) mixed (calls_envT tLd_ok) (lok_envT _ _) (M := mLT) (lm_one LT_piece) (LT_vc ⟨p, lf, s, bs b, e, r, c, a⟩ l nm) ?_
  have q : (⟨#[50, 32, 114, 101, 115, 101, 114, 118, 111, 105, 114]⟩ : ByteArray) = bs sRes := rfl
  simp only [ofNat_eq, toNat_cast, Nat.zero_add, Nat.add_zero, Nat.mul_one, List.drop_zero, bCells_len, bCells_drop, bCells_take, bCells_app, bCells_one, bCells_plain, List.length_replicate, List.length_append, List.length_take, List.length_drop, List.take_length, and_true, true_and, and_self, decide_true, List.length_nil, List.length_cons, Nat.sub_zero, dB_mk, dB_ro, List.take_zero, fPl, fLen, fTake, n_fsV, n_fsB, n_stat, n_own, n_stor, n_lgR, n_shR, isF_eq, bs_dd, L_bse, strEq_bs, q]
  refine ⟨⟨Nat.le_refl _, hl, hs⟩, br_intro (fun _ => trivial) (fun _ => ⟨⟨l, nm, ⟨p, lf, s, bs b, e, r, c, a⟩⟩, hl, rfl, ?_, rfl, rfl, rfl, rfl, rfl, rfl, rfl, rfl, rfl, rfl, fun _ _ => ?_⟩)⟩
  · show ((l.length : Nat) : Int) - 1 = _; rw [wr64_id (by unfold I64; omega)]
  have hn : (l.length * 2 ≤ l.length * 2 ∧ l.length ≤ 9223372036854775807) = True := eq_true ⟨Nat.le_refl _, by omega⟩
  simp only [hn, true_and, beq_self_eq_true, br_tt0, L_bse]
  have e1 : storL l b = (agB l && decide (fsL sVia l = sRes) && !ownL l b) := rfl
  have e2 : (fsL [118, 105, 97] l = sRes) = (fsL sVia l = sRes) := rfl
  have e3 : (fstF sVia l).isSome = false → ¬ fsL sVia l = sRes := fun h e => by unfold fsL at e; cases hf : fstF sVia l <;> simp_all [sRes]
  simp only [e2]
  refine br_intro (fun h1 => br_intro (fun h2 => br_if (fun h3 => ?_) (fun h3 => ?_)) (fun h2 => ?_)) (fun h1 => ?_)
  · rw [e1, h1, decide_eq_true h3]; simp [br]
  · rw [e1, decide_eq_false h3]; simp [br]
  · rw [e1, decide_eq_false (e3 h2)]; simp [br]
  · rw [e1, h1]; simp [br]
theorem fstF_in (nm : List UInt8) : ∀ l : List Fl, (fstF nm l).isSome = true → ∃ f ∈ l, f.n = nm
  | [], h => by simp [fstF] at h
  | f :: l, h => by
    rw [fstF_cons] at h
    by_cases hf : f.n = nm
    · exact ⟨f, by simp, hf⟩
    · rw [if_neg hf] at h
      obtain ⟨g, h1, h2⟩ := fstF_in nm l h
      exact ⟨g, by simp [h1], h2⟩
theorem fsL_in (nm : List UInt8) (l : List Fl) (h : fsL nm l ≠ []) : ∃ f ∈ l, f.n = nm := by
  refine fstF_in nm l ?_
  unfold fsL at h
  cases hf : fstF nm l <;> simp_all
theorem own_no (l : List Fl) (b : List UInt8) (h : ownL l b = true) : b = [] ∧ (fstF sVia l).isSome = false ∧ storL l b = false ∧ l.length = 2 := by
  have h0 := h
  unfold ownL at h0
  simp only [Bool.and_eq_true, decide_eq_true_eq, Bool.or_eq_true] at h0
  obtain ⟨⟨⟨h1, h2⟩, h3⟩, h4⟩ := h0
  have s1 : fsL sStat l ≠ [] := fun e => by
    have : statL l = 0 := by unfold statL stN; rw [e]; rfl
    omega
  obtain ⟨f, f1, f2⟩ := fsL_in _ _ s1
  obtain ⟨g, g1, g2⟩ := fsL_in sCoLe l (by rw [h3]; simp)
  refine ⟨h4, ?_, ?_, h2⟩
  · cases hv : (fstF sVia l).isSome with
    | false => rfl
    | true =>
      exfalso
      obtain ⟨x, x1, x2⟩ := fstF_in _ _ hv
      match l, h2 with
      | [p, q], _ =>
        simp only [List.mem_cons, List.not_mem_nil, or_false] at f1 g1 x1
        have n1 : sStat ≠ sCoLe := by decide
        have n2 : sStat ≠ sVia := by decide
        have n3 : sCoLe ≠ sVia := by decide
        rcases f1 with rfl | rfl <;> rcases g1 with rfl | rfl <;> rcases x1 with rfl | rfl <;> simp_all
  · unfold storL; rw [h]; simp
def thr (k : Nat) : List UInt8 := [UInt8.ofNat (48 + k / 100), UInt8.ofNat (48 + k / 10 % 10), UInt8.ofNat (48 + k % 10)]
theorem thr_st (k : Nat) (hk : k < 1000) : statL [⟨sStat, thr k⟩, ⟨sCoLe, [48]⟩] = k := by
  have e : fsL sStat [⟨sStat, thr k⟩, ⟨sCoLe, [48]⟩] = thr k := by unfold fsL; rw [fstF_cons, if_pos rfl]; rfl
  unfold statL
  rw [e]
  have t1 : (UInt8.ofNat (48 + k / 100)).toNat = 48 + k / 100 := u8_toNat_ofNat (by omega)
  have t2 : (UInt8.ofNat (48 + k / 10 % 10)).toNat = 48 + k / 10 % 10 := u8_toNat_ofNat (by omega)
  have t3 : (UInt8.ofNat (48 + k % 10)).toNat = 48 + k % 10 := u8_toNat_ofNat (by omega)
  unfold stN thr
  rw [if_pos (by rfl), digF_cons, if_pos (by unfold isDg; rw [t1]; simp; omega), digF_cons, if_pos (by unfold isDg; rw [t2]; simp; omega), digF_cons, if_pos (by unfold isDg; rw [t3]; simp; omega)]
  show (some _).getD 0 = k
  rw [Option.getD_some, t1, t2, t3]; omega
theorem thr_own (k : Nat) (hk : k < 1000) : ownL [⟨sStat, thr k⟩, ⟨sCoLe, [48]⟩] [] = (decide (k = 502) || decide (k = 503) || decide (k = 504)) := by
  unfold ownL
  rw [thr_st k hk]
  have : fsL sCoLe [⟨sStat, thr k⟩, ⟨sCoLe, [48]⟩] = [48] := by unfold fsL; rw [fstF_cons, if_neg (show ¬ sStat = sCoLe by decide), fstF_cons, if_pos rfl]; rfl
  rw [this]; simp
theorem wf16d {n : Int} (h : (Lit.int .u16 n).wf = true) : 0 ≤ n ∧ n < 65536 := by
  simp only [Lit.wf, Bool.and_eq_true, decide_eq_true_eq] at h
  have h1 : IntKind.u16.min = 0 := by rfl
  have h2 : IntKind.u16.max = 65535 := by rfl
  rw [h1, h2] at h
  omega
theorem ld_own (p lf s : Int) (l : List Fl) (b : ByteArray) (e r : Bool) (c a : Int) (k : Int) (_ : I64 p) (_ : I64 lf) (_ : I64 s) (hl : l.length ≤ 1048576) (hs : ∀ f ∈ l, f.n.length ≤ 1048576 ∧ f.v.length ≤ 1048576) (_ : b.size ≤ 1048576) (_ : I64 c) (_ : I64 a) (hk : (Lit.int .u16 k).wf = true) : Con Try.prog 6 [.agg ⟨tkCy ⟨p, lf, s, b, e, r, c, a⟩ 0 l.length⟩, .int .u16 k] [gRo enF l] (.bool true) [gRo enF l] := by
  obtain ⟨b, rfl⟩ : ∃ l, b = bs l := ⟨L b, rfl⟩
  refine con_vc (E := EtLd) mixed (calls_envT tLd_ok) (lok_envT _ _) (M := noM) lm_none (LO_vc ⟨p, lf, s, bs b, e, r, c, a⟩ l k) ?_
  have q : (⟨#[118, 105, 97]⟩ : ByteArray) = bs sVia := rfl
  obtain ⟨k, rfl⟩ : ∃ m : Nat, k = m := ⟨k.toNat, by have := wf16d hk; omega⟩
  have hk6 := wf16d hk
  have e0 : (k : Int).tmod 1000 = ((k % 1000 : Nat) : Int) := rfl
  generalize hm : k % 1000 = m at e0
  have hm : m < 1000 := by omega
  have i1 : IntKind.i64.wrap (m : Int) = (m : Int) := wr64_id (by unfold I64; omega)
  have i2 : ((m : Int)).tdiv 100 = ((m / 100 : Nat) : Int) := rfl
  have i3 : ((m : Int)).tdiv 10 = ((m / 10 : Nat) : Int) := rfl
  have i4 : ((m : Int)).tmod 10 = ((m % 10 : Nat) : Int) := rfl
  have i5 : ((m / 10 : Nat) : Int).tmod 10 = ((m / 10 % 10 : Nat) : Int) := rfl
  have i6 : ∀ x : Nat, x < 1000 → IntKind.i64.wrap (x : Int) = (x : Int) := fun x hx => wr64_id (by unfold I64; omega)
  have i7 : ∀ x : Nat, x < 100 → UInt8.ofNat (IntKind.u8.wrap (IntKind.i64.wrap (48 + (x : Int)))).toNat = UInt8.ofNat (48 + x) := fun x hx => by
    rw [show (48 + (x : Int)) = ((48 + x : Nat) : Int) by omega, i6 _ (by omega), wru8_nat (by omega)]; rfl
  simp only [e0, i1, i2, i3, i4, i6 (m / 100) (by omega), i6 (m / 10) (by omega), i5, i7 (m / 100) (by omega), i7 (m / 10 % 10) (by omega), i7 (m % 10) (by omega)]
  have cg : [Value.string ⟨#[58, 115, 116, 97, 116, 117, 115]⟩, Value.string ⟨⟨[UInt8.ofNat (48 + m / 100), UInt8.ofNat (48 + m / 10 % 10), UInt8.ofNat (48 + m % 10)]⟩⟩, Value.string ⟨#[99, 111, 110, 116, 101, 110, 116, 45, 108, 101, 110, 103, 116, 104]⟩, Value.string ⟨#[48]⟩] = gC enF [⟨sStat, thr m⟩, ⟨sCoLe, [48]⟩] := rfl
  have cf : IsF ⟨gC enF [⟨sStat, thr m⟩, ⟨sCoLe, [48]⟩], true, .cells true⟩ 2 := isF_mk _ _ rfl
  have q0 : (⟨#[]⟩ : ByteArray) = bs [] := rfl
  have ow := thr_own m hm
  simp only [cg, q0]
  simp only [ofNat_eq, toNat_cast, Nat.zero_add, Nat.add_zero, Nat.mul_one, List.drop_zero, bCells_len, bCells_drop, bCells_take, bCells_app, bCells_one, bCells_plain, List.length_replicate, List.length_append, List.length_take, List.length_drop, List.take_length, and_true, true_and, and_self, decide_true, List.length_nil, List.length_cons, Nat.sub_zero, dB_mk, dB_ro, List.take_zero, fPl, fLen, fTake, n_fsV, n_fsB, n_stat, n_own, n_stor, n_lgR, n_shR, isF_eq, bs_dd, L_bse, strEq_bs, q]
  have hn : (l.length * 2 ≤ l.length * 2 ∧ l.length ≤ 9223372036854775807) = True := eq_true ⟨Nat.le_refl _, by omega⟩
  simp only [hn, true_and, ow]
  refine ⟨⟨Nat.le_refl _, hl, hs⟩, br_intro (fun _ => trivial) (fun _ => ⟨⟨by omega, cf, by unfold maxLen; omega⟩, ?_⟩)⟩
  have tail : (br ((m : Int) == 502) (br ((decide (m = 502) || decide (m = 503) || decide (m = 504)) == true) True (true = false)) (br ((m : Int) == 503) (br ((decide (m = 502) || decide (m = 503) || decide (m = 504)) == true) True (true = false)) (br ((decide (m = 502) || decide (m = 503) || decide (m = 504)) == ((m : Int) == 504)) True (true = false)))) := by
    have f1 : ((m : Int) == 502) = decide (m = 502) := by rw [Bool.eq_iff_iff]; simp; omega
    have f2 : ((m : Int) == 503) = decide (m = 503) := by rw [Bool.eq_iff_iff]; simp; omega
    have f3 : ((m : Int) == 504) = decide (m = 504) := by rw [Bool.eq_iff_iff]; simp; omega
    rw [f1, f2, f3]
    cases decide (m = 502) <;> cases decide (m = 503) <;> cases decide (m = 504) <;> simp [br]
  refine br_intro (fun _ => tail) (fun h => ?_)
  obtain ⟨o1, o2, o3, o4⟩ := own_no l b (by simpa using h)
  rw [o2, o3, o4, decide_eq_true o1]
  exact tail
theorem ld_runs : Con Try.prog 3 [] [] (.bool true) [] := con_run mixed (n := 1000000) (by kernel_rfl) (by kernel_rfl)
end Go.Proofs.Ytgfidcdkjnnlgaa.tk
