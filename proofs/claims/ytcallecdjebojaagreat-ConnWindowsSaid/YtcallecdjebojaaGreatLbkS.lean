/- Lists of bytes held against each other. -/
import Derived.Test.YtcallecdjebojaaGreatSz9
import Derived.Test.YtcallecdjebojaaGreatRows
import Derived.Test.YtcallecdjebojaaGreatLbk0
set_option maxRecDepth 20000
set_option linter.unusedSimpArgs false
set_option linter.unusedVariables false
namespace Go.Proofs.YtcallecdjebojaaGreat.bk
open Go Go.Ev Go.Sy Go.RowKit
structure GSame where
  a : List UInt8
  b : List UInt8
end Go.Proofs.YtcallecdjebojaaGreat.bk
