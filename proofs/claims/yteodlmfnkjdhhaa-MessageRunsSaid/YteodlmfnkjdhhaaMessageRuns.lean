/- The law MessageRuns of the program returns true, whatever the world; it has no argument; nothing that was there before changes. No condition. -/
import Derived.Test.YteodlmfnkjdhhaaRows
import Derived.Test.YteodlmfnkjdhhaaEv6
namespace Go.Proofs.Yteodlmfnkjdhhaa.messageRuns
open Go.Ev Go.ChangeShapes Go.WideShapes Go.ChangeAt Go.RowKit

theorem own : ownKnob Try.prog.godebug = none := by kernel_rfl
theorem mixed : Try.prog.follows .mixedOrders = true := by kernel_rfl
theorem okf : okFn Try.prog 3 = true := by kernel_rfl
theorem comes : ret? (Ev.run Try.prog 1000000 3 [] ⟨.leaf, 0⟩) = some (.bool true) := by kernel_rfl

theorem walk (w : World) : Calls Try.prog 3 #[] w fun e w' => e = .returned (.bool true) ∧ Below w.heap.size w w' :=
  run_closed mixed okf (args := []) rfl rfl comes w

theorem spec : LawSpec Rows.messageRunsSpec 0 := by
  refine ⟨rfl, fun H ds h => ?_⟩
  cases ds with
  | nil => exact ⟨rfl, rfl, rfl⟩
  | cons => simp at h

set_option maxRecDepth 100000 in
theorem lifted (os : Os) (started : os.Started) (H : Type) (enc : TypeId × Value → H) :
    ReturnsInHanded {} Try.checked os 3 .any (Rows.messageRunsSpec.pre6 enc Try.prog Try.f3 Rows.messageRunsRow.domain false) (Rows.messageRunsSpec.post enc Try.prog Try.f3 false true false false) := by
  refine law_lifted (C := Try.checked) own started (by kernel_rfl) Try.func3
    (ChangeSpec.witness6 (enc := enc) (C := Try.checked) false ⟨#[], #[], []⟩ 8 (by kernel_rfl) (by kernel_rfl) (by kernel_rfl) (by kernel_rfl))
    spec rfl Try.underlying4 (by kernel_rfl) (fun t ht => by rw [Try.params3] at ht; simp at ht) ?_
  intro W base args ds p _ hA
  rw [Try.params3] at hA
  obtain ⟨rfl, rfl, rfl⟩ := trodAll_none hA
  exact walk W

theorem over : Rows.messageRunsRow.holds Try.pinned (OpenSpec.ofChange Rows.messageRunsSpec) :=
  OpenClaim.holds_of_wide 3 Try.f3 rfl rfl rfl rfl rfl rfl rfl ⟨rfl, rfl, rfl, rfl, rfl⟩ rfl rfl rfl rfl rfl (by kernel_rfl) Try.func3 (by kernel_rfl)
    (of_decide_eq_true (by kernel_rfl)) (by unfold Func.isWrapper; first | (rw [if_pos (by decide +kernel)]; kernel_rfl) | (rw [if_neg (by decide +kernel)]; exact ⟨rfl, rfl⟩))
    (fun os started H enc _ => lifted os started H enc)

theorem proved : Rows.MessageRunsSaid :=
  over
end Go.Proofs.Yteodlmfnkjdhhaa.messageRuns
