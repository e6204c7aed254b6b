/- The dynamic table: what is known of numbers of fields. -/
import Derived.Test.YtlkinjlbaeigdaaSz9
import Derived.Test.YtlkinjlbaeigdaaRows
import Derived.Test.YtlkinjlbaeigdaaLtbH
set_option maxRecDepth 20000
set_option linter.unusedSimpArgs false
set_option linter.unusedVariables false
namespace Go.Proofs.Ytlkinjlbaeigdaa.tb
open Go Go.Ev Go.Sy Go.RowKit Go.Proofs.Ytlkinjlbaeigdaa.gl Go.Proofs.Ytlkinjlbaeigdaa.tk
theorem getF_ok (l : List Fl) (i : Nat) (h1 : 1 ≤ i) (h2 : i ≤ 61 + l.length) : (getF l i).2 = true := by
  unfold getF
  split
  · show inR i = true
    exact decide_eq_true (by omega)
  · rw [if_pos (by omega)]
theorem fl_eq {a b : Fl} (h1 : a.n = b.n) (h2 : a.v = b.v) : a = b := by cases a; cases b; simp_all
theorem fnd_spec (l : List Fl) (f : Fl) : ∀ (k i : Nat) (nm : Int), i + k = 62 + l.length → 1 ≤ i → (nm = 0 ∨ ∃ j : Nat, nm = j ∧ 1 ≤ j ∧ j ≤ 61 + l.length ∧ (getF l j).1.n = f.n) →
    ((fndN l f k i nm).2 = true ∧ ∃ j : Nat, (fndN l f k i nm).1 = j ∧ i ≤ j ∧ j ≤ 61 + l.length ∧ (getF l j).1 = f ∧ ∀ j' : Nat, i ≤ j' → j' < j → (getF l j').1 ≠ f) ∨
    ((fndN l f k i nm).2 = false ∧ (∀ j' : Nat, i ≤ j' → j' ≤ 61 + l.length → (getF l j').1 ≠ f) ∧ ((fndN l f k i nm).1 = 0 ∨ ∃ j : Nat, (fndN l f k i nm).1 = j ∧ 1 ≤ j ∧ j ≤ 61 + l.length ∧ (getF l j).1.n = f.n))
  | 0, i, nm, h1, h2, h3 => .inr ⟨rfl, fun j' q1 q2 => by omega, h3⟩
  | k + 1, i, nm, h1, h2, h3 => by
    rw [fndN]
    by_cases h : (getF l (i : Nat)).1.n = f.n ∧ (getF l (i : Nat)).1.v = f.v
    · rw [if_pos h]
      exact .inl ⟨rfl, i, rfl, Nat.le_refl _, by omega, fl_eq h.1 h.2, fun j' q1 q2 => by omega⟩
    · rw [if_neg h]
      have hne : (getF l (i : Nat)).1 ≠ f := fun e => h ⟨by rw [e], by rw [e]⟩
      have h3' : (if nm = 0 ∧ (getF l (i : Nat)).1.n = f.n then ((i : Nat) : Int) else nm) = 0 ∨ ∃ j : Nat, (if nm = 0 ∧ (getF l (i : Nat)).1.n = f.n then ((i : Nat) : Int) else nm) = j ∧ 1 ≤ j ∧ j ≤ 61 + l.length ∧ (getF l j).1.n = f.n := by
        split
        · rename_i q
          exact .inr ⟨i, rfl, h2, by omega, q.2⟩
        · exact h3
      rcases fnd_spec l f k (i + 1) _ (by omega) (by omega) h3' with ⟨r1, j, r2, r3, r4, r5, r6⟩ | ⟨r1, r2, r3⟩
      · refine .inl ⟨r1, j, r2, by omega, r4, r5, fun j' q1 q2 => ?_⟩
        rcases Nat.eq_or_lt_of_le q1 with e | q
        · rw [← e]; exact hne
        · exact r6 j' q q2
      · refine .inr ⟨r1, fun j' q1 q2 => ?_, r3⟩
        rcases Nat.eq_or_lt_of_le q1 with e | q
        · rw [← e]; exact hne
        · exact r2 j' q q2
theorem isTb_mk (t : Tb) (h : Ok t) : IsTb ⟨gC enF (t.l ++ t.j), false, .cells true⟩ t.l.length ((smN t.l : Nat) : Int) := by
  obtain ⟨h1, h2, h3⟩ := h
  have := ok_len t.l
  exact ⟨t.l, t.j, rfl, rfl, rfl, by omega, by omega⟩
theorem fnd_rng (l : List Fl) (f : Fl) : ∃ q : Nat, (fndF l f).1 = q ∧ q ≤ 61 + l.length := by
  rcases fnd_spec l f (61 + l.length) 1 0 (by omega) (by omega) (.inl rfl) with ⟨_, q, r2, _, r4, _, _⟩ | ⟨_, _, r3⟩
  · exact ⟨q, r2, r4⟩
  · rcases r3 with r3 | ⟨q, r3, _, q2, _⟩
    · exact ⟨0, r3, by omega⟩
    · exact ⟨q, r3, q2⟩
end Go.Proofs.Ytlkinjlbaeigdaa.tb
