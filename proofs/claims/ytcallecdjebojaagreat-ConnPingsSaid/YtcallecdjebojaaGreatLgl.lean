/- Lists of structs as cells: lemmas for any encoding of a fixed width. -/
import Derived.Test.YtcallecdjebojaaGreatSz9
import Derived.Test.YtcallecdjebojaaGreatRows
set_option maxRecDepth 20000
set_option linter.unusedSimpArgs false
set_option linter.unusedVariables false
namespace Go.Proofs.YtcallecdjebojaaGreat.gl
open Go Go.Ev Go.Sy Go.RowKit
section
variable {α : Type} (en : α → List Value) (k : Nat)
def gC (l : List α) : List Value := l.flatMap en
def gRo (l : List α) : Row := ⟨gC en l, true, .cells true⟩
end
section
variable {α : Type} {en : α → List Value} {k : Nat}
theorem gC_cons (a : α) (l : List α) : gC en (a :: l) = en a ++ gC en l := rfl
theorem gC_len (hk : ∀ a, (en a).length = k) (l : List α) : (gC en l).length = l.length * k := by
  induction l with
  | nil => simp [gC]
  | cons a l ih => rw [gC_cons, List.length_append, ih, hk, List.length_cons, Nat.succ_mul]; omega
theorem gC_drop (hk : ∀ a, (en a).length = k) (l : List α) (i : Nat) : (gC en l).drop (i * k) = gC en (l.drop i) := by
  induction l generalizing i with
  | nil => simp [gC]
  | cons a l ih =>
    cases i with
    | zero => simp
    | succ i =>
      rw [gC_cons, List.drop_succ_cons, ← ih, Nat.succ_mul, Nat.add_comm, ← List.drop_drop, ← hk a, List.drop_left]
theorem gC_get (hk : ∀ a, (en a).length = k) (l : List α) (i j : Nat) (hi : i < l.length) (hj : j < k) : (gC en l)[i * k + j]? = (en l[i])[j]? := by
  have h := gC_drop hk l i
  rw [List.drop_eq_getElem_cons hi, gC_cons] at h
  have e : (gC en l)[i * k + j]? = ((gC en l).drop (i * k))[j]? := by rw [List.getElem?_drop]
  rw [e, h, List.getElem?_append_left (by rw [hk]; exact hj)]
theorem gC_get0 (hk : ∀ a, (en a).length = k) (l : List α) (i : Nat) (hi : i < l.length) (hj : 0 < k) : (gC en l)[i * k]? = (en l[i])[0]? := gC_get hk l i 0 hi hj
theorem gC_plain (h : ∀ a, Plain (en a)) (l : List α) : Plain (gC en l) := by
  intro v hv
  obtain ⟨a, _, h'⟩ := List.mem_flatMap.1 hv
  exact h a v h'
end
end Go.Proofs.YtcallecdjebojaaGreat.gl
