/- The store: a node is put in front; its fields are parts. -/
import Derived.Test.YtcjbpmphkmcmjaaSz9
import Derived.Test.YtcjbpmphkmcmjaaRows
import Derived.Test.YtcjbpmphkmcmjaaLsoE
set_option maxRecDepth 20000
set_option linter.unusedSimpArgs false
set_option linter.unusedVariables false
namespace Go.Proofs.Ytcjbpmphkmcmjaa.so
open Go Go.Ev Go.Sy Go.RowKit Go.Proofs.Ytcjbpmphkmcmjaa.gl Go.Proofs.Ytcjbpmphkmcmjaa.tk Go.Proofs.Ytcjbpmphkmcmjaa.cp Go.Proofs.Ytcjbpmphkmcmjaa.ic
structure GP where
  s : SS
  i : Nat
  n : Nd
def stP (s : SS) (n : Nd) : SS := ⟨s.bud, s.siz, if s.fn = 0 then s.nd ++ [n] else s.nd.modify (adI s) (fun _ => n), s.fr, s.fn - 1, s.nw, s.ol, s.m⟩
def stQ (s : SS) (i : Nat) : SS := ⟨s.bud, s.siz, setNw s.nd s.nw (i : Int), s.fr, s.fn, s.nw, if s.nw = -1 then (i : Int) else s.ol, s.m⟩
def preP (g : GP) : Prop := g.i = g.s.nd.length ∧ g.i ≤ 1000000 ∧ g.s.fn ≤ g.s.fr.length ∧ g.s.fn ≤ 1000000 ∧ (0 < g.s.fn → 0 ≤ g.s.fr.getD (g.s.fn - 1) 0 ∧ g.s.fr.getD (g.s.fn - 1) 0 < (g.s.nd.length : Int))
def pP : List Nat := [0, 1, 1, 1]
def pQ : List Nat := [0, 1, 1, 1, 1]
theorem shownC (i : Int) (z o n : Nat) (l : List Int) (h : GI z o n l) : Value.slice (some ⟨gCode (shown (Value.int .i64 i :: List.take n (List.drop o (gCells z))) 0 (1 + n) 1), 0, some 0⟩) (1 + n) 1 = gsI (i :: l) := by
  obtain ⟨h1, h2, h3⟩ := h
  rw [h2]
  have e : (Value.int .i64 i :: iCells .i64 l) = iCells .i64 (i :: l) := rfl
  rw [e, show 1 + n = (i :: l).length by rw [h3, List.length_cons]; omega, shownI]
  rfl
end Go.Proofs.Ytcjbpmphkmcmjaa.so
