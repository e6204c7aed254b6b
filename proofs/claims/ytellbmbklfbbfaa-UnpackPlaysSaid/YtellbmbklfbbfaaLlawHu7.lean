/- A closed sentence: the chapter's runs, the book of codes known. -/
import Derived.Test.YtellbmbklfbbfaaSz9
import Derived.Test.YtellbmbklfbbfaaRows
import Derived.Test.YtellbmbklfbbfaaLhfB
set_option maxRecDepth 20000
set_option linter.unusedSimpArgs false
set_option linter.unusedVariables false
namespace Go.Proofs.Ytellbmbklfbbfaa.hf
open Go Go.Ev Go.Sy Go.RowKit Go.Proofs.Ytellbmbklfbbfaa.gl Go.Proofs.Ytellbmbklfbbfaa.tk
theorem rn_law : Con Try.prog 3 [] [] (.bool true) [] :=
  con_flat rfl rfl fun w => run_closedO mixed oH_ok (n := 1000000) (by kernel_rfl) (args := []) rfl rfl (by kernel_rfl) w
end Go.Proofs.Ytellbmbklfbbfaa.hf
