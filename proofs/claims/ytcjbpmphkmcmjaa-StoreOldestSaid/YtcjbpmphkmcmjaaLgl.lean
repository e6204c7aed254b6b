/- Lists of structs as cells: lemmas for any encoding of a fixed width. -/
import Derived.Test.YtcjbpmphkmcmjaaSz9
import Derived.Test.YtcjbpmphkmcmjaaRows
set_option maxRecDepth 20000
set_option linter.unusedSimpArgs false
set_option linter.unusedVariables false
namespace Go.Proofs.Ytcjbpmphkmcmjaa.gl
open Go Go.Ev Go.Sy Go.RowKit
section
variable {α : Type} (en : α → List Value) (k : Nat)
def gC (l : List α) : List Value := l.flatMap en
def gRo (l : List α) : Row := ⟨gC en l, true, .cells true⟩
def gOwn (l : List α) : Row := ⟨gC en l, false, .cells true⟩
end
section
variable {α : Type} {en : α → List Value} {k : Nat}
theorem gC_cons (a : α) (l : List α) : gC en (a :: l) = en a ++ gC en l := rfl
theorem gC_app (a b : List α) : gC en a ++ gC en b = gC en (a ++ b) := by simp [gC]
theorem gC_len (hk : ∀ a, (en a).length = k) (l : List α) : (gC en l).length = l.length * k := by
  induction l with
  | nil => simp [gC]
  | cons a l ih => rw [gC_cons, List.length_append, ih, hk, List.length_cons, Nat.succ_mul]; omega
theorem gC_drop (hk : ∀ a, (en a).length = k) (l : List α) (i : Nat) : (gC en l).drop (i * k) = gC en (l.drop i) := by
  induction l generalizing i with
  | nil => simp [gC]
  | cons a l ih =>
    cases i with
    | zero => simp
    | succ i =>
      rw [gC_cons, List.drop_succ_cons, ← ih, Nat.succ_mul, Nat.add_comm, ← List.drop_drop, ← hk a, List.drop_left]
theorem gC_take (hk : ∀ a, (en a).length = k) (l : List α) (i : Nat) : (gC en l).take (i * k) = gC en (l.take i) := by
  induction l generalizing i with
  | nil => simp [gC]
  | cons a l ih =>
    cases i with
    | zero => simp [gC]
    | succ i =>
      rw [gC_cons, List.take_succ_cons, gC_cons, ← ih, Nat.succ_mul, Nat.add_comm, List.take_add, ← hk a, List.take_left, List.drop_left]
theorem gC_get (hk : ∀ a, (en a).length = k) (l : List α) (i j : Nat) (hi : i < l.length) (hj : j < k) : (gC en l)[i * k + j]? = (en l[i])[j]? := by
  have h := gC_drop hk l i
  rw [List.drop_eq_getElem_cons hi, gC_cons] at h
  have e : (gC en l)[i * k + j]? = ((gC en l).drop (i * k))[j]? := by rw [List.getElem?_drop]
  rw [e, h, List.getElem?_append_left (by rw [hk]; exact hj)]
theorem gC_set (hk : ∀ a, (en a).length = k) (l : List α) (i : Nat) (b : α) (hi : i < l.length) : ovr (gC en l) (i * k) (en b) = gC en (l.set i b) := by
  unfold ovr
  rw [gC_take hk, hk, show i * k + k = (i + 1) * k from (Nat.succ_mul i k).symm, gC_drop hk, List.set_eq_take_append_cons_drop, if_pos hi, ← gC_app, gC_cons]
theorem gC_plain (h : ∀ a, Plain (en a)) (l : List α) : Plain (gC en l) := by
  intro v hv
  obtain ⟨a, _, h'⟩ := List.mem_flatMap.1 hv
  exact h a v h'
theorem gC_one (h : ∀ a, allOne (en a) = true) (l : List α) : allOne (gC en l) = true := by
  induction l with
  | nil => rfl
  | cons a l ih =>
    have h2 := h a
    rw [gC_cons]
    have : ∀ c : List Value, allOne c = true → allOne (c ++ gC en l) = true := by
      intro c
      induction c with
      | nil => intro _; exact ih
      | cons v c ih2 => intro hc; simp only [List.cons_append, allOne, Bool.and_eq_true] at hc ⊢; exact ⟨hc.1, ih2 hc.2⟩
    exact this _ h2
end
end Go.Proofs.Ytcjbpmphkmcmjaa.gl
