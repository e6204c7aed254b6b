/- A value that is not looked into. -/
import Derived.Test.YtcjbpmphkmcmjaaSz9
import Derived.Test.YtcjbpmphkmcmjaaRows
set_option maxRecDepth 20000
set_option linter.unusedSimpArgs false
set_option linter.unusedVariables false
namespace Go.Proofs.Ytcjbpmphkmcmjaa.cp
open Go Go.Ev Go.Sy Go.RowKit
theorem cp_ex {α : Type} (f : α) : ∃ g, g = f := ⟨f, rfl⟩
noncomputable def sealV {α : Type} (f : α) : α := Classical.choose (cp_ex f)
theorem sealV_eq {α : Type} (f : α) : sealV f = f := Classical.choose_spec (cp_ex f)
end Go.Proofs.Ytcjbpmphkmcmjaa.cp
