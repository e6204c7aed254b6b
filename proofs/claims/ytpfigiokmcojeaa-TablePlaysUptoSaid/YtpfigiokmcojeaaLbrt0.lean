/- Conditions that hold, taken away. -/
import Derived.Test.YtpfigiokmcojeaaSz9
import Derived.Test.YtpfigiokmcojeaaRows
set_option linter.unusedSimpArgs false
set_option linter.unusedVariables false
namespace Go.Proofs.Ytpfigiokmcojeaa.sh
open Go Go.Ev Go.Sy Go.RowKit
theorem br_iff {b : Bool} {p q : Prop} : br b p q ↔ (b = true → p) ∧ (b = false → q) := by cases b <;> simp [br]
end Go.Proofs.Ytpfigiokmcojeaa.sh
