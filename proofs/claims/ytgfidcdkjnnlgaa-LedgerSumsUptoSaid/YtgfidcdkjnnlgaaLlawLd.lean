/- The laws: any talk's status, a field's value, whose it is; an answer of another kind is never the proxy's own. -/
import Derived.Test.YtgfidcdkjnnlgaaSz9
import Derived.Test.YtgfidcdkjnnlgaaRows
import Derived.Test.YtgfidcdkjnnlgaaLldBase
set_option linter.unusedSimpArgs false
set_option linter.unusedVariables false
namespace Go.Proofs.Ytgfidcdkjnnlgaa.tk
open Go Go.Ev Go.Sy Go.RowKit Go.Proofs.Ytgfidcdkjnnlgaa.gl
noncomputable def eLdRuns : EntM := entC 3 fun a r => match a, r with
  | [], [] => some (True, .bool true, [])
  | _, _ => none
structure StLT where
  w : ByteArray
  th : Bool
  v : ByteArray
  hs : Bool
  ag : Bool
  j : Nat
theorem n_lgR (l : List Fl) (b : Bool) (o : Ob) : lgR ⟨gC enF l, b, o⟩ = lgB l := by unfold lgR; simp only; rw [decF_gC]
theorem n_shR (l : List Fl) (b : Bool) (o : Ob) : ShR ⟨gC enF l, b, o⟩ = ShortF l := by unfold ShR; simp only; rw [decF_gC]
theorem eLgt_ok : EntOk Try.prog eLgt := entC_ok (by
  intro a rows p v news h hp
  split at h <;> simp only [Option.some.injEq, Prod.mk.injEq, reduceCtorEq] at h
  obtain ⟨rfl, rfl, rfl⟩ := h
  obtain ⟨⟨l, rfl, rfl⟩, h1, h2⟩ := hp
  simp only [ShR, lgR, dF, List.append_nil] at h2 ⊢
  exact Lg_con l h1 h2)
theorem eSd_ok : EntOk Try.prog eSd := entC_ok (by
  intro a rows p v news h hp
  split at h <;> simp only [Option.some.injEq, Prod.mk.injEq, reduceCtorEq] at h
  obtain ⟨rfl, rfl, rfl⟩ := h
  obtain ⟨⟨l, rfl, rfl⟩, h1⟩ := hp
  simp only [storR, dF, List.append_nil]
  exact Sd_con ⟨_, _, _, _, _, _, _, _⟩ l h1)
theorem eLdRuns_ok : EntOk Try.prog eLdRuns := entC_ok (by
  intro a rows p v news h hp
  split at h <;> simp only [Option.some.injEq, Prod.mk.injEq, reduceCtorEq] at h
  obtain ⟨rfl, rfl, rfl⟩ := h
  exact con_run mixed (n := 1000000) (by kernel_rfl) (by kernel_rfl))
end Go.Proofs.Ytgfidcdkjnnlgaa.tk
