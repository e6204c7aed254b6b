/- Decimal numerals: what is read of them. -/
import Derived.Test.YteodlmfnkjdhhaaDoorSz9
import Derived.Test.YteodlmfnkjdhhaaDoorRows
import Derived.Test.YteodlmfnkjdhhaaDoorLmsBase
import Derived.Test.YteodlmfnkjdhhaaDoorLitA
set_option maxRecDepth 20000
set_option linter.unusedSimpArgs false
set_option linter.unusedVariables false
namespace Go.Proofs.YteodlmfnkjdhhaaDoor.it
open Go Go.Ev Go.Sy Go.RowKit Go.Proofs.YteodlmfnkjdhhaaDoor.gl Go.Proofs.YteodlmfnkjdhhaaDoor.tk
theorem dec_lt {u : Nat} (h : u < 10) : Lib.decDigits u = [UInt8.ofNat (48 + u)] := by rw [Lib.decDigits]; rw [dif_pos h]
theorem dec_ge {u : Nat} (h : ¬ u < 10) : Lib.decDigits u = Lib.decDigits (u / 10) ++ [UInt8.ofNat (48 + u % 10)] := by rw [Lib.decDigits]; rw [dif_neg h]
theorem dg_nat {k : Nat} (h : k < 10) : (UInt8.ofNat (48 + k)).toNat = 48 + k := by rw [UInt8.toNat_ofNat']; omega
theorem isDg_of {k : Nat} (h : k < 10) : isDg (UInt8.ofNat (48 + k)) = true := by unfold isDg; rw [dg_nat h]; exact decide_eq_true (by omega)
theorem digF_app : ∀ (a b : List UInt8) (n : Nat), digF (a ++ b) n = (digF a n).bind (digF b)
  | [], b, n => rfl
  | c :: a, b, n => by
    rw [List.cons_append, digF, digF]
    split
    · exact digF_app a b _
    · rfl
theorem dec_dig : ∀ (k u : Nat), u ≤ k → digF (Lib.decDigits u) 0 = some u
  | k, u, hk => by
    by_cases h : u < 10
    · rw [dec_lt h, digF, if_pos (isDg_of h), dg_nat h, digF]
      congr 1; omega
    · cases k with
      | zero => omega
      | succ k =>
        rw [dec_ge h, digF_app, dec_dig k (u / 10) (by omega)]
        have h10 : u % 10 < 10 := by omega
        show digF [UInt8.ofNat (48 + u % 10)] (u / 10) = some u
        rw [digF, if_pos (isDg_of h10), dg_nat h10, digF]
        congr 1; omega
theorem dec_all : ∀ (k u : Nat), u ≤ k → ∀ c ∈ Lib.decDigits u, isDg c = true
  | k, u, hk => by
    by_cases h : u < 10
    · rw [dec_lt h]; intro c hc; rw [List.mem_singleton] at hc; subst hc; exact isDg_of h
    · cases k with
      | zero => omega
      | succ k =>
        rw [dec_ge h]; intro c hc
        rcases List.mem_append.1 hc with hc | hc
        · exact dec_all k (u / 10) (by omega) c hc
        · rw [List.mem_singleton] at hc; subst hc; exact isDg_of (by omega)
theorem dec_len : ∀ (k u : Nat), u < 10 ^ (k + 1) → 1 ≤ (Lib.decDigits u).length ∧ (Lib.decDigits u).length ≤ k + 1
  | k, u, hk => by
    by_cases h : u < 10
    · rw [dec_lt h]; simp
    · cases k with
      | zero => omega
      | succ k =>
        have := dec_len k (u / 10) (by rw [Nat.pow_succ] at hk; omega)
        rw [dec_ge h, List.length_append, List.length_singleton]; omega
theorem val_dg {l : List UInt8} (h : ∀ c ∈ l, isDg c = true) (hn : l ≠ []) : valL l = true := by
  have one : ∀ c : UInt8, isDg c = true → ctlN c.toNat = false ∧ spC c = false := by
    intro c hc
    unfold isDg at hc
    have hc := of_decide_eq_true hc
    constructor
    · unfold ctlN; simp; omega
    · unfold spC spN; simp; omega
  unfold valL
  rw [Bool.and_eq_true, List.all_eq_true]
  refine ⟨fun c hc => by rw [(one c (h c hc)).1]; rfl, ?_⟩
  cases l with
  | nil => exact absurd rfl hn
  | cons a r =>
    have h1 := (one a (h a (by simp))).2
    have h2 : spC ((a :: r).getLastD 0) = false := by
      rw [List.getLastD_cons]
      refine (one _ (h _ ?_)).2
      cases r with
      | nil => simp
      | cons b r => rw [List.getLastD_eq_getLast?, List.getLast?_eq_some_getLast (List.cons_ne_nil b r)]; exact List.mem_cons_of_mem _ (List.getLast_mem _)
    show (false || (!spC a && !spC ((a :: r).getLastD 0))) = true
    rw [h1, h2]; rfl
end Go.Proofs.YteodlmfnkjdhhaaDoor.it
