/- A function of one byte. -/
import Derived.Test.YtideeogedleabaaSz9
import Derived.Test.YtideeogedleabaaRows
import Derived.Test.YtideeogedleabaaLbyt
import Derived.Test.YtideeogedleabaaLk9
set_option maxRecDepth 20000
set_option linter.unusedSimpArgs false
set_option linter.unusedVariables false
namespace Go.Proofs.Ytideeogedleabaa.tk
open Go Go.Ev Go.Sy Go.RowKit
theorem control_con (c : UInt8) : Con Try.prog 76 [.int .u8 c.toNat] [] (.bool (ctlN c.toNat)) [] :=
  Go.Proofs.Ytideeogedleabaa.byt.by_con mixed (by kernel_rfl) (Go.Proofs.Ytideeogedleabaa.byt.eight (by kernel_rfl) (by kernel_rfl) (by kernel_rfl) (by kernel_rfl) (by kernel_rfl) (by kernel_rfl) (by kernel_rfl) (by kernel_rfl)) c
end Go.Proofs.Ytideeogedleabaa.tk
