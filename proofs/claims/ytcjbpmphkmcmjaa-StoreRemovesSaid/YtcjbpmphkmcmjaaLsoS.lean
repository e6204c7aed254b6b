/- StoreOldest: its loop, and the law. -/
import Derived.Test.YtcjbpmphkmcmjaaSz9
import Derived.Test.YtcjbpmphkmcmjaaRows
import Derived.Test.YtcjbpmphkmcmjaaLsoR
set_option maxRecDepth 20000
set_option linter.unusedSimpArgs false
set_option linter.unusedVariables false
namespace Go.Proofs.Ytcjbpmphkmcmjaa.so
open Go Go.Ev Go.Sy Go.RowKit Go.Proofs.Ytcjbpmphkmcmjaa.gl Go.Proofs.Ytcjbpmphkmcmjaa.tk Go.Proofs.Ytcjbpmphkmcmjaa.cp Go.Proofs.Ytcjbpmphkmcmjaa.ic
structure InvO (g : GOl) (n : Nat) (t : TOl) (ks : List ByteArray) : Prop where
  j1 : t.j ≤ g.l.length
  j2 : t.j ≤ 60
  len : t.s.nd.length ≤ 2 * t.j
  bud : t.s.bud = 109 * (n : Int)
  vw : Vw t.s (ks.map pgE)
  w : t.w = kk ks
  nod : ks.Nodup
  kl : ks.length ≤ n
  one : ∀ B ∈ ks, (L B).length = 1
def s0 (b : Int) : SS := ⟨b, 0, [], [], 0, -1, -1, []⟩
theorem fv0 : FV [] := fv_z.1
theorem isF0 : IsF ⟨[], true, .cells true⟩ 0 := ⟨[], rfl, rfl⟩
theorem fvr0 : FVR ⟨[], true, .cells true⟩ := by
  have := fvR [] true (.cells true)
  exact this.mpr fv0
theorem vw0 (b : Int) : Vw (s0 b) [] := by
  have hg : ∀ i, gN ([] : List Nd) i = ndZ := fun i => rfl
  refine ⟨[], ⟨⟨List.nodup_nil, by simp, Nat.zero_le _, by simp [s0], by simp [s0], rfl, trivial, rfl, rfl, rfl, by simp [s0], fun _ => rfl⟩, ⟨Nat.zero_le _, fun i => ?_, by simp⟩, by simp⟩, rfl⟩
  show FV (gN [] i).e ∧ _
  exact fv_z
end Go.Proofs.Ytcjbpmphkmcmjaa.so
