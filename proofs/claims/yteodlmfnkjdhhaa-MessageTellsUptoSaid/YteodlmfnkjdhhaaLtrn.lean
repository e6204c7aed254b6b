/- Fields that are turned, one by one. -/
import Derived.Test.YteodlmfnkjdhhaaSz9
import Derived.Test.YteodlmfnkjdhhaaRows
import Derived.Test.YteodlmfnkjdhhaaLtok
set_option linter.unusedSimpArgs false
set_option linter.unusedVariables false
namespace Go.Proofs.Yteodlmfnkjdhhaa.tk
open Go Go.Ev Go.Sy Go.RowKit Go.Proofs.Yteodlmfnkjdhhaa.gl
def sTurn : Fl := ⟨[116, 117, 114, 110, 101, 100], []⟩
def trn (l : List Fl) (i : Nat) : List Fl := List.replicate i sTurn ++ l.drop i
theorem trn_len (l : List Fl) (i : Nat) (h : i ≤ l.length) : (trn l i).length = l.length := by unfold trn; simp; omega
theorem trn_set (l : List Fl) (i : Nat) (h : i < l.length) : (trn l i).set i sTurn = trn l (i + 1) := by
  unfold trn
  rw [List.set_append_right _ _ (by simp), List.length_replicate, Nat.sub_self, List.drop_eq_getElem_cons h, List.set_cons_zero, List.replicate_succ']
  simp
theorem trn_ovr (l : List Fl) (i : Nat) (h : i < l.length) : ovr (gC enF (trn l i)) (i * 2) [Value.string ⟨#[116, 117, 114, 110, 101, 100]⟩, Value.string ⟨#[]⟩] = gC enF (trn l (i + 1)) := by
  have := gC_set enF_k (trn l i) i sTurn (by rw [trn_len _ _ (Nat.le_of_lt h)]; exact h)
  rw [trn_set _ _ h] at this
  exact this
end Go.Proofs.Yteodlmfnkjdhhaa.tk
