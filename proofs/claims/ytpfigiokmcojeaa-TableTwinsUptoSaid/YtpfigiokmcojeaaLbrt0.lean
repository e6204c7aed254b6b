/- Conditions that hold, taken away. -/
import Derived.Test.YtpfigiokmcojeaaSz9
import Derived.Test.YtpfigiokmcojeaaRows
set_option linter.unusedSimpArgs false
set_option linter.unusedVariables false
namespace Go.Proofs.Ytpfigiokmcojeaa.sh
open Go Go.Ev Go.Sy Go.RowKit
end Go.Proofs.Ytpfigiokmcojeaa.sh
