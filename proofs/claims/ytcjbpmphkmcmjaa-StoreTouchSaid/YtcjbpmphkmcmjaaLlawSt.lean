/- StoreTouch: the law. -/
import Derived.Test.YtcjbpmphkmcmjaaSz9
import Derived.Test.YtcjbpmphkmcmjaaRows
import Derived.Test.YtcjbpmphkmcmjaaLstA
import Derived.Test.YtcjbpmphkmcmjaaLstB
import Derived.Test.YtcjbpmphkmcmjaaLstC
import Derived.Test.YtcjbpmphkmcmjaaLstD
set_option linter.unusedSimpArgs false
set_option linter.unusedVariables false
namespace Go.Proofs.Ytcjbpmphkmcmjaa.sx
open Go Go.Ev Go.Sy Go.RowKit Go.Proofs.Ytcjbpmphkmcmjaa.tk
theorem eRunsS_ok : EntOk Try.prog eRunsS := entC_ok (by
  intro a rows p v news h hp
  split at h <;> simp only [Option.some.injEq, Prod.mk.injEq, reduceCtorEq] at h
  obtain ⟨rfl, rfl, rfl⟩ := h
  exact con_run mixed (n := 1000000) (by kernel_rfl) (by kernel_rfl))
theorem eWn_ok (K W : Int) : EntOk Try.prog (eWn K W) := entC_ok (by
  intro a rows p v news h hp
  split at h
  · rename_i n lo hi
    cases hl : decide (lo = 2) with
    | true =>
      rw [hl] at h
      simp only [cond_true, Option.some.injEq, Prod.mk.injEq] at h
      obtain ⟨rfl, rfl, rfl⟩ := h
      obtain ⟨h1, rfl, rfl, h2⟩ := hp
      rw [← h1]
      exact within_con _ _ _ h2 (by omega) (by omega) (by omega)
    | false =>
      rw [hl] at h
      simp only [cond_false, Option.some.injEq, Prod.mk.injEq] at h
      obtain ⟨rfl, rfl, rfl⟩ := h
      obtain ⟨h1, rfl, rfl, h2, h3, h4⟩ := hp
      rw [← h1]
      exact within_con _ _ _ h2 (by omega) (by omega) (by omega)
  · simp at h)
theorem tSt_ok (K W : Int) : ∀ x ∈ tSt K W, EntOk Try.prog x := all_cons (eWn_ok K W) (all_cons eRunsS_ok all_nil)
theorem s_all : ∀ (n m : Nat), 2 ≤ n → n ≤ 9 → m < n → ∀ b k w, mlS n m b k w = cnS n n m k w
  | 0, _, h, _, _ => absurd h (by omega)
  | 1, _, h, _, _ => absurd h (by omega)
  | 2, m, _, _, h => s2 m h
  | 3, m, _, _, h => s3 m h
  | 4, m, _, _, h => s4 m h
  | 5, m, _, _, h => s5 m h
  | 6, m, _, _, h => s6 m h
  | 7, m, _, _, h => s7 m h
  | 8, m, _, _, h => s8 m h
  | 9, m, _, _, h => s9 m h
  | n + 10, _, _, h, _ => absurd h (by omega)
theorem al_of {p : Prop} (h : p) : ∀ n, al n p
  | 0 => h
  | n + 1 => ⟨by intro v hv; simp at hv, al_of h n⟩
theorem st_law (k w : Int) (b : Bool) (hk : I64 k) (hw : I64 w) : Con Try.prog 8 [.int .i64 k, .int .i64 w, .bool b] [] (.bool true) [] := by
  obtain ⟨h1, h2⟩ := inside_in k 2 9 (by omega)
  obtain ⟨n, hn⟩ : ∃ n : Nat, inside k 2 9 = (n : Int) := ⟨(inside k 2 9).toNat, by omega⟩
  obtain ⟨h3, h4⟩ := inside_in w 0 ((n : Int) - 1) (by omega)
  obtain ⟨m, hm⟩ : ∃ m : Nat, inside w 0 ((n : Int) - 1) = (m : Int) := ⟨(inside w 0 ((n : Int) - 1)).toNat, by omega⟩
  refine con_vc (E := ESt n m) mixed (calls_envTc (tSt_ok n m)) (lok_envTc _ _) (M := noM) lm_none (s_all n m (by omega) (by omega) (by omega) b k w) ?_
  unfold cnS
  refine ⟨by simp [hn, hk], al_of ⟨by simp only [true_and]; exact ⟨hm, hw, by omega, by omega⟩, al_of (by simp) 3⟩ _⟩
end Go.Proofs.Ytcjbpmphkmcmjaa.sx
