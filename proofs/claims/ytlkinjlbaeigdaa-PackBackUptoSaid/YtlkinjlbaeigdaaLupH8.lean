/- A block, read: what holds of it. -/
import Derived.Test.YtlkinjlbaeigdaaSz9
import Derived.Test.YtlkinjlbaeigdaaRows
import Derived.Test.YtlkinjlbaeigdaaLupG8
set_option maxRecDepth 20000
set_option linter.unusedSimpArgs false
set_option linter.unusedVariables false
namespace Go.Proofs.Ytlkinjlbaeigdaa.up
open Go Go.Ev Go.Sy Go.RowKit Go.Proofs.Ytlkinjlbaeigdaa.gl Go.Proofs.Ytlkinjlbaeigdaa.tk Go.Proofs.Ytlkinjlbaeigdaa.hf Go.Proofs.Ytlkinjlbaeigdaa.s3 Go.Proofs.Ytlkinjlbaeigdaa.tb
end Go.Proofs.Ytlkinjlbaeigdaa.up
