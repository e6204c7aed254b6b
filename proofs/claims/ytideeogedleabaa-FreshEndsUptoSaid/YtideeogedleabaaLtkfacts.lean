/- Facts on lowered, trimmed, split texts. -/
import Derived.Test.YtideeogedleabaaSz9
import Derived.Test.YtideeogedleabaaRows
import Derived.Test.YtideeogedleabaaLtok
set_option maxRecDepth 20000
set_option linter.unusedSimpArgs false
set_option linter.unusedVariables false
namespace Go.Proofs.Ytideeogedleabaa.tk
open Go Go.Ev Go.Sy Go.RowKit Go.Proofs.Ytideeogedleabaa.gl
theorem u8_all {P : UInt8 → Prop} (h : ∀ n, n < 256 → P (UInt8.ofNat n)) (c : UInt8) : P c := by
  have := h c.toNat c.toNat_lt
  rwa [UInt8.ofNat_toNat] at this
theorem lowC_low (c : UInt8) : lowC (lowC c) = lowC c := by
  refine u8_all (P := fun c => lowC (lowC c) = lowC c) ?_ c
  decide +kernel
theorem tok_low (c : UInt8) : tokN (lowC c).toNat = tokN c.toNat := by
  refine u8_all (P := fun c => tokN (lowC c).toNat = tokN c.toNat) ?_ c
  decide +kernel
theorem lower_lower (l : List UInt8) : lowerL (lowerL l) = lowerL l := by
  unfold lowerL; rw [List.map_map]; congr 1; funext c; exact lowC_low c
theorem lower_len (l : List UInt8) : (lowerL l).length = l.length := by simp [lowerL]
theorem tok_lower (l : List UInt8) : tokL (lowerL l) = tokL l := by
  unfold tokL allTk lowerL
  rw [List.all_map, List.isEmpty_map]
  congr 1
  congr 1
  funext c; exact tok_low c
theorem trimB_app (r : List UInt8) (c : UInt8) : trimB (r ++ [c]) = if spC c then trimB r else r ++ [c] := by
  unfold trimB; rw [List.reverse_append, List.reverse_singleton, List.singleton_append, List.dropWhile_cons]
  split <;> simp
/-- A text without blanks at its ends. -/
def Trimmed (l : List UInt8) : Prop := trimF l = l ∧ trimB l = l
theorem trimF_F (l : List UInt8) : trimF (trimF l) = trimF l := by
  induction l with
  | nil => rfl
  | cons c l ih =>
    unfold trimF at *
    rw [List.dropWhile_cons]
    split
    · exact ih
    · rename_i h; rw [List.dropWhile_cons_of_neg h]
theorem trimB_B (l : List UInt8) : trimB (trimB l) = trimB l := by
  have := trimF_F l.reverse
  unfold trimF trimB at *
  rw [List.reverse_reverse, this]
theorem trimB_pre (l : List UInt8) : ∃ t, l = trimB l ++ t ∧ ∀ c ∈ t, spC c = true := by
  have h := List.takeWhile_append_dropWhile (p := spC) (l := l.reverse)
  refine ⟨(l.reverse.takeWhile spC).reverse, ?_, fun c hc => ?_⟩
  · unfold trimB
    rw [← List.reverse_append, h, List.reverse_reverse]
  · exact List.all_eq_true.1 (List.all_takeWhile (p := spC) (l := l.reverse)) c (List.mem_reverse.1 hc)
theorem trimF_B (l : List UInt8) (h : trimF l = l) : trimF (trimB l) = trimB l := by
  obtain ⟨t, h1, h2⟩ := trimB_pre l
  cases hb : trimB l with
  | nil => rfl
  | cons c r =>
    rw [hb] at h1
    unfold trimF at *
    by_cases hc : spC c = true
    · rw [h1, List.cons_append, List.dropWhile_cons_of_pos hc] at h
      have h3 := (List.dropWhile_sublist spC (l := r ++ t)).length_le
      rw [h] at h3; simp at h3
      omega
    · rw [List.dropWhile_cons_of_neg hc]
theorem trim_trimmed (l : List UInt8) : Trimmed (trimL l) := ⟨trimF_B _ (trimF_F l), trimB_B _⟩
theorem trimL_of {l : List UInt8} (h : Trimmed l) : trimL l = l := by unfold trimL; rw [h.1, h.2]
theorem trim_trim (l : List UInt8) : trimL (trimL l) = trimL l := trimL_of (trim_trimmed l)
theorem addEl_el (e x : List UInt8) (h : x ∈ addEl e) : x ≠ [] ∧ trimL x = x := by
  unfold addEl at h
  split at h
  · simp at h
  · rename_i hne
    simp at h; subst h
    exact ⟨hne, trim_trim e⟩
theorem spl_el : ∀ (n : Nat) (q : Bool) (cur l : List UInt8) (r : List (List UInt8)), l.length ≤ n → spl q cur l = some r → ∀ x ∈ r, x ≠ [] ∧ trimL x = x := by
  intro n
  induction n with
  | zero =>
    intro q cur l r hl h x hx
    have : l = [] := List.eq_nil_of_length_eq_zero (by omega)
    subst this
    rw [spl_nil] at h
    split at h
    · simp at h
    · simp at h; subst h; exact addEl_el _ _ hx
  | succ n ih =>
    intro q cur l r hl h x hx
    cases l with
    | nil =>
      rw [spl_nil] at h
      split at h
      · simp at h
      · simp at h; subst h; exact addEl_el _ _ hx
    | cons c l =>
      simp only [List.length_cons] at hl
      by_cases h1 : c = 34
      · rw [spl_q _ _ _ _ h1] at h; exact ih _ _ _ _ (by omega) h x hx
      · by_cases h2 : q = true ∧ c = 92
        · cases l with
          | nil => rw [spl_b0 _ _ _ h1 h2] at h; simp at h
          | cons d l => rw [spl_b _ _ _ _ _ h1 h2] at h; simp only [List.length_cons] at hl; exact ih _ _ _ _ (by omega) h x hx
        · by_cases h3 : q = false ∧ c = 44
          · rw [spl_c _ _ _ _ h1 h2 h3, Option.map_eq_some_iff] at h
            obtain ⟨r', h4, rfl⟩ := h
            rcases List.mem_append.1 hx with hx | hx
            · exact addEl_el _ _ hx
            · exact ih _ _ _ _ (by omega) h4 x hx
          · rw [spl_o _ _ _ _ h1 h2 h3] at h; exact ih _ _ _ _ (by omega) h x hx
theorem split_el (l : List UInt8) (x : List UInt8) (hx : x ∈ (splitL l).getD []) : x ≠ [] ∧ trimL x = x := by
  cases h : splitL l with
  | none => rw [h] at hx; simp at hx
  | some r => rw [h] at hx; exact spl_el l.length false [] l r (Nat.le_refl _) h x hx
/-- How long elements are together, and how many there are. -/
theorem addEl_len (e x : List UInt8) (h : x ∈ addEl e) : x.length ≤ e.length := by
  unfold addEl at h
  split at h
  · simp at h
  · simp at h; subst h; exact trimL_len e
theorem spl_len : ∀ (n : Nat) (q : Bool) (cur l : List UInt8) (r : List (List UInt8)), l.length ≤ n → spl q cur l = some r → (∀ x ∈ r, x.length ≤ cur.length + l.length) ∧ r.length ≤ l.length + 1 := by
  intro n
  induction n with
  | zero =>
    intro q cur l r hl h
    have : l = [] := List.eq_nil_of_length_eq_zero (by omega)
    subst this
    rw [spl_nil] at h
    split at h
    · simp at h
    · simp at h; subst h; exact ⟨fun x hx => by have := addEl_len _ _ hx; simp; omega, by unfold addEl; split <;> simp⟩
  | succ n ih =>
    intro q cur l r hl h
    cases l with
    | nil =>
      rw [spl_nil] at h
      split at h
      · simp at h
      · simp at h; subst h; exact ⟨fun x hx => by have := addEl_len _ _ hx; simp; omega, by unfold addEl; split <;> simp⟩
    | cons c l =>
      simp only [List.length_cons] at hl
      have next : ∀ q' cur', cur'.length = cur.length + 1 → spl q' cur' l = some r → (∀ x ∈ r, x.length ≤ cur.length + (c :: l).length) ∧ r.length ≤ (c :: l).length + 1 := fun q' cur' hc h => by
        obtain ⟨k1, k2⟩ := ih _ _ _ _ (by omega) h
        simp only [List.length_cons]
        exact ⟨fun x hx => by have := k1 x hx; omega, by omega⟩
      by_cases h1 : c = 34
      · rw [spl_q _ _ _ _ h1] at h; exact next _ _ (by simp) h
      · by_cases h2 : q = true ∧ c = 92
        · cases l with
          | nil => rw [spl_b0 _ _ _ h1 h2] at h; simp at h
          | cons d l =>
            rw [spl_b _ _ _ _ _ h1 h2] at h
            simp only [List.length_cons] at hl
            obtain ⟨k1, k2⟩ := ih _ _ _ _ (by omega) h
            simp only [List.length_cons]
            exact ⟨fun x hx => by have := k1 x hx; simp at this; omega, by omega⟩
        · by_cases h3 : q = false ∧ c = 44
          · rw [spl_c _ _ _ _ h1 h2 h3, Option.map_eq_some_iff] at h
            obtain ⟨r', h4, rfl⟩ := h
            obtain ⟨k1, k2⟩ := ih _ _ _ _ (by omega) h4
            simp only [List.length_cons, List.length_append]
            have : (addEl cur).length ≤ 1 := by unfold addEl; split <;> simp
            refine ⟨fun x hx => ?_, by omega⟩
            rcases List.mem_append.1 hx with hx | hx
            · have := addEl_len _ _ hx; omega
            · have := k1 x hx; simp at this; omega
          · rw [spl_o _ _ _ _ h1 h2 h3] at h; exact next _ _ (by simp) h
theorem split_len (l : List UInt8) : (∀ x ∈ (splitL l).getD [], x.length ≤ l.length) ∧ ((splitL l).getD []).length ≤ l.length + 1 := by
  cases h : splitL l with
  | none => exact ⟨fun x hx => by simp at hx, by simp⟩
  | some r =>
    obtain ⟨k1, k2⟩ := spl_len l.length false [] l r (Nat.le_refl _) h
    exact ⟨fun x hx => by have := k1 x hx; simpa using this, k2⟩
theorem unq_len : ∀ (n : Nat) (l r : List UInt8), l.length ≤ n → unq l = some r → r.length ≤ l.length := by
  intro n
  induction n with
  | zero =>
    intro l r hl h
    have : l = [] := List.eq_nil_of_length_eq_zero (by omega)
    subst this; simp [unq] at h; subst h; simp
  | succ n ih =>
    intro l r hl h
    cases l with
    | nil => simp [unq] at h; subst h; simp
    | cons c l =>
      simp only [List.length_cons] at hl
      by_cases h1 : c = 34
      · rw [unq_q _ _ h1] at h; simp at h
      · by_cases h2 : c = 92
        · cases l with
          | nil => rw [unq_b0 _ h1 h2] at h; simp at h
          | cons d l =>
            rw [unq_b _ _ _ h1 h2] at h
            simp only [List.length_cons] at hl
            split at h
            · simp at h
            · rw [Option.map_eq_some_iff] at h
              obtain ⟨r', h3, rfl⟩ := h
              have := ih _ _ (by omega) h3
              simp only [List.length_cons]; omega
        · rw [unq_o _ _ h1 h2] at h
          split at h
          · simp at h
          · rw [Option.map_eq_some_iff] at h
            obtain ⟨r', h3, rfl⟩ := h
            have := ih _ _ (by omega) h3
            simp only [List.length_cons]; omega
theorem unqL_len (l r : List UInt8) (h : unqL l = some r) : r.length ≤ l.length := by
  unfold unqL at h
  split at h
  · simp at h; subst h; exact Nat.le_refl _
  · split at h
    · simp at h
    · have := unq_len _ _ r (Nat.le_refl _) h
      simp at this; omega
theorem of_len (l : List UInt8) (p : Pr) (h : ofL l = some p) : p.n.length ≤ l.length ∧ p.v.length ≤ l.length := by
  unfold ofL at h
  split at h
  · simp at h; subst h; simp [lowerL]
  · split at h
    · split at h
      · simp at h
      · rename_i v hv
        split at h
        · simp at h; subst h
          have h1 := unqL_len _ _ hv
          have h2 := (List.takeWhile_sublist (p := (· != 61)) (l := l)).length_le
          have h3 := (List.dropWhile_sublist (p := (· != 61)) (l := l)).length_le
          simp only [lowerL, List.length_map, List.length_drop] at *
          exact ⟨h2, by omega⟩
        · simp at h
    · simp at h
theorem pairs_len (l : List Fl) (nm : List UInt8) : (pairsL l nm).length ≤ (allL l nm).length + 1 ∧ ∀ p ∈ pairsL l nm, p.n.length ≤ (allL l nm).length ∧ p.v.length ≤ (allL l nm).length := by
  have h := split_len (allL l nm)
  rw [pairs_el]
  refine ⟨Nat.le_trans (List.length_filterMap_le _ _) h.2, fun p hp => ?_⟩
  obtain ⟨x, hx, hp⟩ := List.mem_filterMap.1 hp
  have h1 := h.1 x hx
  have h2 := of_len x p hp
  omega
end Go.Proofs.Ytideeogedleabaa.tk
