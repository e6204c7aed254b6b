/- Conditions that hold, taken away. -/
import Derived.Test.YtellbmbklfbbfaaSz9
import Derived.Test.YtellbmbklfbbfaaRows
set_option maxRecDepth 20000
set_option linter.unusedSimpArgs false
set_option linter.unusedVariables false
namespace Go.Proofs.Ytellbmbklfbbfaa.sh
open Go Go.Ev Go.Sy Go.RowKit
end Go.Proofs.Ytellbmbklfbbfaa.sh
