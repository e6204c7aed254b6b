/- Functions of one byte: each byte tried, by the kernel. -/
import Derived.Test.YtcjbpmphkmcmjaaSz9
import Derived.Test.YtcjbpmphkmcmjaaRows
set_option maxRecDepth 20000
set_option linter.unusedSimpArgs false
set_option linter.unusedVariables false
namespace Go.Proofs.Ytcjbpmphkmcmjaa.byt
open Go Go.Ev Go.Sy Go.RowKit
noncomputable def byAll (P : Program) (f : FuncId) (spec : Nat → Bool) : Nat → Nat → Bool
  | 0, _ => true
  | k + 1, i => (match ret? (Ev.run P 1000 f [.int .u8 (Int.ofNat i)] ⟨.leaf, 0⟩) with
    | some (.bool b) => b == spec i
    | _ => false) && byAll P f spec k (i + 1)
theorem byAll_spec {P : Program} {f : FuncId} {spec : Nat → Bool} : ∀ (k i : Nat), byAll P f spec k i = true → ∀ n, i ≤ n → n < i + k → ret? (Ev.run P 1000 f [.int .u8 (Int.ofNat n)] ⟨.leaf, 0⟩) = some (.bool (spec n)) := by
  intro k
  induction k with
  | zero => intro i _ n h1 h2; omega
  | succ k ih =>
    intro i h n h1 h2
    simp only [byAll, Bool.and_eq_true] at h
    rcases Nat.lt_or_ge i n with hlt | hge
    · exact ih (i + 1) h.2 n (by omega) (by omega)
    · have : n = i := by omega
      subst this
      have h3 := h.1
      split at h3
      · rename_i b hb
        rw [hb, eq_of_beq h3]
      · simp at h3
theorem by_con {P : Program} (hm : P.follows .mixedOrders = true) {f : FuncId} {spec : Nat → Bool} (hok : okFn P f = true)
    (h : ∀ j, j < 8 → byAll P f spec 32 (j * 32) = true) (c : UInt8) : Con P f [.int .u8 c.toNat] [] (.bool (spec c.toNat)) [] := by
  have hc := c.toNat_lt
  have := byAll_spec 32 (c.toNat / 32 * 32) (h (c.toNat / 32) (by omega)) c.toNat (by omega) (by omega)
  exact con_flat rfl rfl fun w => run_closed hm hok (args := [.int .u8 (Int.ofNat c.toNat)]) rfl rfl this w
theorem eight {p : Nat → Prop} (h0 : p 0) (h1 : p 1) (h2 : p 2) (h3 : p 3) (h4 : p 4) (h5 : p 5) (h6 : p 6) (h7 : p 7) : ∀ j, j < 8 → p j := by
  intro j hj
  match j, hj with
  | 0, _ => exact h0
  | 1, _ => exact h1
  | 2, _ => exact h2
  | 3, _ => exact h3
  | 4, _ => exact h4
  | 5, _ => exact h5
  | 6, _ => exact h6
  | 7, _ => exact h7
end Go.Proofs.Ytcjbpmphkmcmjaa.byt
