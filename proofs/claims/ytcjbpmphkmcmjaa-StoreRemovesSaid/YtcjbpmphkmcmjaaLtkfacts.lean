/- Facts on lowered, trimmed, split texts. -/
import Derived.Test.YtcjbpmphkmcmjaaSz9
import Derived.Test.YtcjbpmphkmcmjaaRows
import Derived.Test.YtcjbpmphkmcmjaaLk9
set_option maxRecDepth 20000
set_option linter.unusedSimpArgs false
set_option linter.unusedVariables false
namespace Go.Proofs.Ytcjbpmphkmcmjaa.tk
open Go Go.Ev Go.Sy Go.RowKit Go.Proofs.Ytcjbpmphkmcmjaa.gl
theorem addEl_len (e x : List UInt8) (h : x ∈ addEl e) : x.length ≤ e.length := by
  unfold addEl at h
  split at h
  · simp at h
  · simp at h; subst h; exact trimL_len e
theorem spl_len : ∀ (n : Nat) (q : Bool) (cur l : List UInt8) (r : List (List UInt8)), l.length ≤ n → spl q cur l = some r → (∀ x ∈ r, x.length ≤ cur.length + l.length) ∧ r.length ≤ l.length + 1 := by
  intro n
  induction n with
  | zero =>
    intro q cur l r hl h
    have : l = [] := List.eq_nil_of_length_eq_zero (by omega)
    subst this
    rw [spl_nil] at h
    split at h
    · simp at h
    · simp at h; subst h; exact ⟨fun x hx => by have := addEl_len _ _ hx; simp; omega, by unfold addEl; split <;> simp⟩
  | succ n ih =>
    intro q cur l r hl h
    cases l with
    | nil =>
      rw [spl_nil] at h
      split at h
      · simp at h
      · simp at h; subst h; exact ⟨fun x hx => by have := addEl_len _ _ hx; simp; omega, by unfold addEl; split <;> simp⟩
    | cons c l =>
      simp only [List.length_cons] at hl
      have next : ∀ q' cur', cur'.length = cur.length + 1 → spl q' cur' l = some r → (∀ x ∈ r, x.length ≤ cur.length + (c :: l).length) ∧ r.length ≤ (c :: l).length + 1 := fun q' cur' hc h => by
        obtain ⟨k1, k2⟩ := ih _ _ _ _ (by omega) h
        simp only [List.length_cons]
        exact ⟨fun x hx => by have := k1 x hx; omega, by omega⟩
      by_cases h1 : c = 34
      · rw [spl_q _ _ _ _ h1] at h; exact next _ _ (by simp) h
      · by_cases h2 : q = true ∧ c = 92
        · cases l with
          | nil => rw [spl_b0 _ _ _ h1 h2] at h; simp at h
          | cons d l =>
            rw [spl_b _ _ _ _ _ h1 h2] at h
            simp only [List.length_cons] at hl
            obtain ⟨k1, k2⟩ := ih _ _ _ _ (by omega) h
            simp only [List.length_cons]
            exact ⟨fun x hx => by have := k1 x hx; simp at this; omega, by omega⟩
        · by_cases h3 : q = false ∧ c = 44
          · rw [spl_c _ _ _ _ h1 h2 h3, Option.map_eq_some_iff] at h
            obtain ⟨r', h4, rfl⟩ := h
            obtain ⟨k1, k2⟩ := ih _ _ _ _ (by omega) h4
            simp only [List.length_cons, List.length_append]
            have : (addEl cur).length ≤ 1 := by unfold addEl; split <;> simp
            refine ⟨fun x hx => ?_, by omega⟩
            rcases List.mem_append.1 hx with hx | hx
            · have := addEl_len _ _ hx; omega
            · have := k1 x hx; simp at this; omega
          · rw [spl_o _ _ _ _ h1 h2 h3] at h; exact next _ _ (by simp) h
theorem split_len (l : List UInt8) : (∀ x ∈ (splitL l).getD [], x.length ≤ l.length) ∧ ((splitL l).getD []).length ≤ l.length + 1 := by
  cases h : splitL l with
  | none => exact ⟨fun x hx => by simp at hx, by simp⟩
  | some r =>
    obtain ⟨k1, k2⟩ := spl_len l.length false [] l r (Nat.le_refl _) h
    exact ⟨fun x hx => by have := k1 x hx; simpa using this, k2⟩
end Go.Proofs.Ytcjbpmphkmcmjaa.tk
