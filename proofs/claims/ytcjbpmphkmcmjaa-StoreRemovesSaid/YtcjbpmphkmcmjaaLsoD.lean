/- The store: a node is taken out. Pieces. -/
import Derived.Test.YtcjbpmphkmcmjaaSz9
import Derived.Test.YtcjbpmphkmcmjaaRows
import Derived.Test.YtcjbpmphkmcmjaaLsoC
set_option maxRecDepth 20000
set_option linter.unusedSimpArgs false
set_option linter.unusedVariables false
namespace Go.Proofs.Ytcjbpmphkmcmjaa.so
open Go Go.Ev Go.Sy Go.RowKit Go.Proofs.Ytcjbpmphkmcmjaa.gl Go.Proofs.Ytcjbpmphkmcmjaa.tk Go.Proofs.Ytcjbpmphkmcmjaa.cp Go.Proofs.Ytcjbpmphkmcmjaa.ic
noncomputable def tNo : List EntM := []
noncomputable abbrev ERm : Env := envT Try.prog tNo
noncomputable def rwS (s : SS) : List (Nat × Row) := [(0, ssR s 1 2 3), (1, gOwn ndC s.nd), (2, iOwn .i64 s.fr), (3, mpR s.m)]
noncomputable def ndR (n : Nd) : Row := ⟨ndC n, false, .cells false⟩
structure GR where
  s : SS
  i : Int
  n : Nd
def slA (g : GR) : List (Nat × Value) := [(0, .pointer (some ⟨0, 0, none⟩)), (1, .int .i64 g.i), (4, .pointer (some ⟨4, 0, none⟩))]
noncomputable def rlA (g : GR) : List (Nat × Row) := rwS g.s ++ [(4, ndR g.n)]
def setOl (l : List Nd) (k v : Int) : List Nd := if k = -1 then l else l.modify k.toNat (fun y => { y with ol := v })
def setNw (l : List Nd) (k v : Int) : List Nd := if k = -1 then l else l.modify k.toNat (fun y => { y with nw := v })
def ndLk (nd : List Nd) (k : Int) : Prop := k = -1 ∨ (0 ≤ k ∧ k < (nd.length : Int))
def stA (s : SS) (n : Nd) : SS := ⟨s.bud, s.siz, setOl s.nd n.nw n.ol, s.fr, s.fn, if n.nw = -1 then n.ol else s.nw, s.ol, s.m⟩
def stB (s : SS) (n : Nd) : SS := ⟨s.bud, s.siz, setNw s.nd n.ol n.nw, s.fr, s.fn, s.nw, if n.ol = -1 then n.nw else s.ol, s.m⟩
def pA : List Nat := [0, 1]
def pB : List Nat := [0, 1, 1]
noncomputable def wsA (g : GR) : List (Gate Unit) := [⟨.normal, fun _ => True, fun _ => slA g, fun _ => rlA ⟨stA g.s g.n, g.i, g.n⟩, 5⟩]
noncomputable def wsB (g : GR) : List (Gate Unit) := [⟨.normal, fun _ => True, fun _ => slA g, fun _ => rlA ⟨stB g.s g.n, g.i, g.n⟩, 5⟩]
noncomputable def specA : Sy.Spec := specOf 4 5 113 (fun g : GR => ndLk g.s.nd g.n.nw) slA rlA wsA
noncomputable def specB' : Sy.Spec := specOf 4 5 113 (fun g : GR => ndLk g.s.nd g.n.ol) slA rlA wsB
theorem A_round (g : GR) : mev ERm noM 100 35 pA false (codeOf Try.prog 35 pA) ⟨mkOv (slA g), 113, []⟩ none ⟨mkR (rlA g), 5⟩ (Sy.endsIn 4 113 (wsA g)) =
  let z1 := ((Plain (gC ndC (setOl g.1.3 g.3.6 g.3.7))) /\ ((Eq (α := List Value) (iCells IntKind.i64 g.1.4) (iCells IntKind.i64 g.1.4)) /\ ((Plain (iCells IntKind.i64
  g.1.4)) /\ ((Eq (α := List Value) (mC g.1.8) (mC g.1.8)) /\ ((Plain (mC g.1.8)) /\ ((g.3.1.1 = g.3.1.1) /\ ((g.3.1.2 = g.3.1.2) /\ ((g.3.1.3 = g.3.1.3) /\ ((g.3.1.4 =
  g.3.1.4) /\ ((gCode (gC enF g.3.2) = gCode (gC enF g.3.2)) /\ ((0 = 0) /\ ((List.length g.3.2 = List.length g.3.2) /\ ((2 = 2) /\ ((g.3.1.5 = g.3.1.5) /\ ((g.3.1.6 =
  g.3.1.6) /\ ((gCode (gC enF g.3.3) = gCode (gC enF g.3.3)) /\ ((0 = 0) /\ ((List.length g.3.3 = List.length g.3.3) /\ ((2 = 2) /\ ((g.3.1.7 = g.3.1.7) /\ ((g.3.1.8 =
  g.3.1.8) /\ ((g.3.1.9 = g.3.1.9) /\ ((g.3.1.10 = g.3.1.10) /\ ((g.3.4 = g.3.4) /\ ((g.3.5 = g.3.5) /\ ((g.3.6 = g.3.6) /\ ((g.3.7 = g.3.7) /\
  True))))))))))))))))))))))))))); let z2 := (List.length (setOl g.1.3 g.3.6 g.3.7) = List.length g.1.3); let z3 := (if g.3.6 = (-1 : Int) then g.3.7 else g.1.6); (br (g.3.6
  != (-1 : Int)) (br (decide ((0 : Int) <= g.3.6 /\ g.3.6 < (↑(List.length g.1.3) : Int))) (br (decide (0 + Int.toNat g.3.6 * 16 + 15 + 1 <= List.length (gC ndC g.1.3)))
  ((Value.slice (some (Addr.mk 1 0 none)) (List.length g.1.3) 16 = Value.slice (some (Addr.mk 1 0 none)) (List.length g.1.3) 16) /\ ((Value.int IntKind.i64 g.3.6 = Value.int
  IntKind.i64 g.3.6) /\ ((Value.int IntKind.i64 g.3.7 = Value.int IntKind.i64 g.3.7) /\ (∃ y : Unit, ((True) /\ ((0 = 0) /\ ((g.2 = g.2) /\ ((0 = 0) /\ ((g.1.1 = g.1.1) /\
  ((g.1.2 = g.1.2) /\ ((0 = 0) /\ (z2 /\ ((0 = 0) /\ ((g.1.5 = g.1.5) /\ ((z3 = g.1.6) /\ ((g.1.7 = g.1.7) /\ ((Eq (α := List Value) (gC ndC (setOl g.1.3 g.3.6 g.3.7)) (ovr
  (gC ndC g.1.3) (0 + Int.toNat g.3.6 * 16 + 15) [Value.int IntKind.i64 g.3.7])) /\ z1))))))))))))))))) False) False) (∃ y : Unit, ((True) /\ ((0 = 0) /\ ((g.2 = g.2) /\ ((0
  = 0) /\ ((g.1.1 = g.1.1) /\ ((g.1.2 = g.1.2) /\ ((0 = 0) /\ (z2 /\ ((0 = 0) /\ ((g.1.5 = g.1.5) /\ ((z3 = g.3.7) /\ ((g.1.7 = g.1.7) /\ ((Eq (α := List Value) (gC ndC
  (setOl g.1.3 g.3.6 g.3.7)) (gC ndC g.1.3)) /\ z1))))))))))))))) := by kernel_rfl
theorem B_round (g : GR) : mev ERm noM 100 35 pB false (codeOf Try.prog 35 pB) ⟨mkOv (slA g), 113, []⟩ none ⟨mkR (rlA g), 5⟩ (Sy.endsIn 4 113 (wsB g)) =
  let z1 := ((Plain (gC ndC (setNw g.1.3 g.3.7 g.3.6))) /\ ((Eq (α := List Value) (iCells IntKind.i64 g.1.4) (iCells IntKind.i64 g.1.4)) /\ ((Plain (iCells IntKind.i64
  g.1.4)) /\ ((Eq (α := List Value) (mC g.1.8) (mC g.1.8)) /\ ((Plain (mC g.1.8)) /\ ((g.3.1.1 = g.3.1.1) /\ ((g.3.1.2 = g.3.1.2) /\ ((g.3.1.3 = g.3.1.3) /\ ((g.3.1.4 =
  g.3.1.4) /\ ((gCode (gC enF g.3.2) = gCode (gC enF g.3.2)) /\ ((0 = 0) /\ ((List.length g.3.2 = List.length g.3.2) /\ ((2 = 2) /\ ((g.3.1.5 = g.3.1.5) /\ ((g.3.1.6 =
  g.3.1.6) /\ ((gCode (gC enF g.3.3) = gCode (gC enF g.3.3)) /\ ((0 = 0) /\ ((List.length g.3.3 = List.length g.3.3) /\ ((2 = 2) /\ ((g.3.1.7 = g.3.1.7) /\ ((g.3.1.8 =
  g.3.1.8) /\ ((g.3.1.9 = g.3.1.9) /\ ((g.3.1.10 = g.3.1.10) /\ ((g.3.4 = g.3.4) /\ ((g.3.5 = g.3.5) /\ ((g.3.6 = g.3.6) /\ ((g.3.7 = g.3.7) /\
  True))))))))))))))))))))))))))); let z2 := (List.length (setNw g.1.3 g.3.7 g.3.6) = List.length g.1.3); let z3 := (if g.3.7 = (-1 : Int) then g.3.6 else g.1.7); (br (g.3.7
  != (-1 : Int)) (br (decide ((0 : Int) <= g.3.7 /\ g.3.7 < (↑(List.length g.1.3) : Int))) (br (decide (0 + Int.toNat g.3.7 * 16 + 14 + 1 <= List.length (gC ndC g.1.3)))
  ((Value.slice (some (Addr.mk 1 0 none)) (List.length g.1.3) 16 = Value.slice (some (Addr.mk 1 0 none)) (List.length g.1.3) 16) /\ ((Value.int IntKind.i64 g.3.7 = Value.int
  IntKind.i64 g.3.7) /\ ((Value.int IntKind.i64 g.3.6 = Value.int IntKind.i64 g.3.6) /\ (∃ y : Unit, ((True) /\ ((0 = 0) /\ ((g.2 = g.2) /\ ((0 = 0) /\ ((g.1.1 = g.1.1) /\
  ((g.1.2 = g.1.2) /\ ((0 = 0) /\ (z2 /\ ((0 = 0) /\ ((g.1.5 = g.1.5) /\ ((g.1.6 = g.1.6) /\ ((z3 = g.1.7) /\ ((Eq (α := List Value) (gC ndC (setNw g.1.3 g.3.7 g.3.6)) (ovr
  (gC ndC g.1.3) (0 + Int.toNat g.3.7 * 16 + 14) [Value.int IntKind.i64 g.3.6])) /\ z1))))))))))))))))) False) False) (∃ y : Unit, ((True) /\ ((0 = 0) /\ ((g.2 = g.2) /\ ((0
  = 0) /\ ((g.1.1 = g.1.1) /\ ((g.1.2 = g.1.2) /\ ((0 = 0) /\ (z2 /\ ((0 = 0) /\ ((g.1.5 = g.1.5) /\ ((g.1.6 = g.1.6) /\ ((z3 = g.3.6) /\ ((Eq (α := List Value) (gC ndC
  (setNw g.1.3 g.3.7 g.3.6)) (gC ndC g.1.3)) /\ z1))))))))))))))) := by kernel_rfl
theorem ovr_pre {a b : List Value} {p : Nat} {vs : List Value} : ovr (a ++ b) (a.length + p) vs = a ++ ovr b p vs := by
  unfold ovr
  rw [List.take_append, List.take_of_length_le (by omega), show a.length + p - a.length = p by omega, show a.length + p + vs.length = a.length + (p + vs.length) by omega, List.drop_append, List.drop_eq_nil_of_le (by omega), show a.length + (p + vs.length) - a.length = p + vs.length by omega]
  simp
theorem ovr_at (j : Nat) (v : Value) (f : Nd → Nd) (hf : ∀ (n : Nd) (X : List Value), ovr (ndC n ++ X) j [v] = ndC (f n) ++ X) : ∀ (l : List Nd) (k : Nat), k < l.length → ovr (gC ndC l) (k * 16 + j) [v] = gC ndC (l.modify k f)
  | [], k, h => by simp at h
  | a :: l, 0, _ => by
    rw [gC_cons, Nat.zero_mul, Nat.zero_add, hf]; rfl
  | a :: l, k + 1, h => by
    rw [gC_cons, List.modify_succ_cons, gC_cons, ← ovr_at j v f hf l k (by simpa using h), show (k + 1) * 16 + j = (ndC a).length + (k * 16 + j) by show _ = 16 + _; omega]
    exact ovr_pre
theorem ovr_ol (l : List Nd) (k : Nat) (v : Int) (h : k < l.length) : ovr (gC ndC l) (k * 16 + 15) [.int .i64 v] = gC ndC (l.modify k (fun y => { y with ol := v })) := ovr_at 15 _ _ (fun n X => rfl) l k h
theorem ovr_nw (l : List Nd) (k : Nat) (v : Int) (h : k < l.length) : ovr (gC ndC l) (k * 16 + 14) [.int .i64 v] = gC ndC (l.modify k (fun y => { y with nw := v })) := ovr_at 14 _ _ (fun n X => rfl) l k h
theorem A_piece : PieceOk ERm 4 (35, pA, specA) := by
  refine piece_code mixed (calls_envT all_nil) (lok_envT _ _) lm_none (n := 100) (fun g hg => ?_)
  refine (A_round g).mpr ?_
  obtain ⟨s, i, n⟩ := g
  simp only at hg
  simp only [Nat.zero_add, nLen, nPl, mC_plain, iCells_plain, and_true, true_and, exists_const]
  unfold setOl
  rcases hg with h | ⟨h1, h2⟩
  · exact br_nb (by simp [h]) (by simp [h])
  · have hne : ¬ n.nw = -1 := by omega
    have e := ovr_ol s.nd n.nw.toNat n.ol (by omega)
    rw [e]
    simp only [if_neg hne]
    exact br_b (by simp [hne]) (br_dec ⟨h1, h2⟩ (br_dec (by omega) (by simp)))
theorem B_piece : PieceOk ERm 4 (35, pB, specB') := by
  refine piece_code mixed (calls_envT all_nil) (lok_envT _ _) lm_none (n := 100) (fun g hg => ?_)
  refine (B_round g).mpr ?_
  obtain ⟨s, i, n⟩ := g
  simp only at hg
  simp only [Nat.zero_add, nLen, nPl, mC_plain, iCells_plain, and_true, true_and, exists_const]
  unfold setNw
  rcases hg with h | ⟨h1, h2⟩
  · exact br_nb (by simp [h]) (by simp [h])
  · have hne : ¬ n.ol = -1 := by omega
    have e := ovr_nw s.nd n.ol.toNat n.nw (by omega)
    rw [e]
    simp only [if_neg hne]
    exact br_b (by simp [hne]) (br_dec ⟨h1, h2⟩ (br_dec (by omega) (by simp)))
end Go.Proofs.Ytcjbpmphkmcmjaa.so
