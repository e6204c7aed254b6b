/- Lists of integers as cells. -/
import Derived.Test.YtcallecdjebojaaGreatSz9
import Derived.Test.YtcallecdjebojaaGreatRows
set_option maxRecDepth 20000
set_option linter.unusedSimpArgs false
set_option linter.unusedVariables false
namespace Go.Proofs.YtcallecdjebojaaGreat.ic
open Go Go.Ev Go.Sy Go.RowKit
end Go.Proofs.YtcallecdjebojaaGreat.ic
