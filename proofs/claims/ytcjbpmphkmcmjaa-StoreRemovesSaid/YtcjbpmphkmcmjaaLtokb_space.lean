/- A function of one byte. -/
import Derived.Test.YtcjbpmphkmcmjaaSz9
import Derived.Test.YtcjbpmphkmcmjaaRows
import Derived.Test.YtcjbpmphkmcmjaaLbyt
import Derived.Test.YtcjbpmphkmcmjaaLk9
set_option maxRecDepth 20000
set_option linter.unusedSimpArgs false
set_option linter.unusedVariables false
namespace Go.Proofs.Ytcjbpmphkmcmjaa.tk
open Go Go.Ev Go.Sy Go.RowKit
theorem space_con (c : UInt8) : Con Try.prog 62 [.int .u8 c.toNat] [] (.bool (spN c.toNat)) [] :=
  Go.Proofs.Ytcjbpmphkmcmjaa.byt.by_con mixed (by kernel_rfl) (Go.Proofs.Ytcjbpmphkmcmjaa.byt.eight (by kernel_rfl) (by kernel_rfl) (by kernel_rfl) (by kernel_rfl) (by kernel_rfl) (by kernel_rfl) (by kernel_rfl) (by kernel_rfl)) c
end Go.Proofs.Ytcjbpmphkmcmjaa.tk
