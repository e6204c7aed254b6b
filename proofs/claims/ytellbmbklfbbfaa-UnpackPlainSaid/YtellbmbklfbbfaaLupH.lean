/- A block, read: what holds of it. -/
import Derived.Test.YtellbmbklfbbfaaSz9
import Derived.Test.YtellbmbklfbbfaaRows
import Derived.Test.YtellbmbklfbbfaaLupG
set_option maxRecDepth 20000
set_option linter.unusedSimpArgs false
set_option linter.unusedVariables false
namespace Go.Proofs.Ytellbmbklfbbfaa.up
open Go Go.Ev Go.Sy Go.RowKit Go.Proofs.Ytellbmbklfbbfaa.gl Go.Proofs.Ytellbmbklfbbfaa.tk Go.Proofs.Ytellbmbklfbbfaa.hf Go.Proofs.Ytellbmbklfbbfaa.s3 Go.Proofs.Ytellbmbklfbbfaa.tb
end Go.Proofs.Ytellbmbklfbbfaa.up
