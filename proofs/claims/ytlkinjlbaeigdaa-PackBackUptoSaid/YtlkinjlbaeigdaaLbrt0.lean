/- Conditions that hold, taken away. -/
import Derived.Test.YtlkinjlbaeigdaaSz9
import Derived.Test.YtlkinjlbaeigdaaRows
set_option maxRecDepth 20000
set_option linter.unusedSimpArgs false
set_option linter.unusedVariables false
namespace Go.Proofs.Ytlkinjlbaeigdaa.sh
open Go Go.Ev Go.Sy Go.RowKit
theorem brT {P : Prop} {d : Decidable P} (h : P) (X : Prop) : br (@decide P d) X False = X := by rw [decide_eq_true h]; rfl
theorem br_iff {b : Bool} {p q : Prop} : br b p q ↔ (b = true → p) ∧ (b = false → q) := by cases b <;> simp [br]
theorem br_tt0 (X Y : Prop) : br true X Y = X := rfl
end Go.Proofs.Ytlkinjlbaeigdaa.sh
