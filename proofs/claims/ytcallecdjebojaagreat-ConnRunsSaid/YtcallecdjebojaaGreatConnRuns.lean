/- The law ConnRuns of the program returns true, whatever the world; it has no argument; nothing that was there before changes. No condition. -/
import Derived.Test.YtcallecdjebojaaGreatRows
import Derived.Test.YtcallecdjebojaaGreatEv6
namespace Go.Proofs.YtcallecdjebojaaGreat.connRuns
open Go.Ev Go.ChangeShapes Go.WideShapes Go.ChangeAt Go.RowKit

theorem own : ownKnob Tryz.prog.godebug = none := by kernel_rfl
theorem mixed : Tryz.prog.follows .mixedOrders = true := by kernel_rfl
theorem okf : okFn Tryz.prog 3 = true := by kernel_rfl
theorem comes : ret? (Ev.run Tryz.prog 1000000 3 [] ⟨.leaf, 0⟩) = some (.bool true) := by kernel_rfl

theorem walk (w : World) : Calls Tryz.prog 3 #[] w fun e w' => e = .returned (.bool true) ∧ Below w.heap.size w w' :=
  run_closed mixed okf (args := []) rfl rfl comes w

theorem spec : LawSpec Rows.connRunsSpec 0 := by
  refine ⟨rfl, fun H ds h => ?_⟩
  cases ds with
  | nil => exact ⟨rfl, rfl, rfl⟩
  | cons => simp at h

set_option maxRecDepth 100000 in
theorem lifted (os : Os) (started : os.Started) (H : Type) (enc : TypeId × Value → H) :
    ReturnsInHanded {} Tryz.checked os 3 .any (Rows.connRunsSpec.pre6 enc Tryz.prog Tryz.f3 Rows.connRunsRow.domain false) (Rows.connRunsSpec.post enc Tryz.prog Tryz.f3 false true false false) := by
  refine law_lifted (C := Tryz.checked) own started (by kernel_rfl) Tryz.func3
    (ChangeSpec.witness6 (enc := enc) (C := Tryz.checked) false ⟨#[], #[], []⟩ 8 (by kernel_rfl) (by kernel_rfl) (by kernel_rfl) (by kernel_rfl))
    spec rfl Tryz.underlying4 (by kernel_rfl) (fun t ht => by rw [Tryz.params3] at ht; simp at ht) ?_
  intro W base args ds p _ hA
  rw [Tryz.params3] at hA
  obtain ⟨rfl, rfl, rfl⟩ := trodAll_none hA
  exact walk W

theorem over : Rows.connRunsRow.holds Tryz.pinned (OpenSpec.ofChange Rows.connRunsSpec) :=
  OpenClaim.holds_of_wide 3 Tryz.f3 rfl rfl rfl rfl rfl rfl rfl ⟨rfl, rfl, rfl, rfl, rfl⟩ rfl rfl rfl rfl rfl (by kernel_rfl) Tryz.func3 (by kernel_rfl)
    (of_decide_eq_true (by kernel_rfl)) (by unfold Func.isWrapper; first | (rw [if_pos (by decide +kernel)]; kernel_rfl) | (rw [if_neg (by decide +kernel)]; exact ⟨rfl, rfl⟩))
    (fun os started H enc _ => lifted os started H enc)

theorem proved : Rows.ConnRunsSaid :=
  over
end Go.Proofs.YtcallecdjebojaaGreat.connRuns
