/- A function of one byte. -/
import Derived.Test.YtllpeacofilbcaaSz9
import Derived.Test.YtllpeacofilbcaaRows
import Derived.Test.YtllpeacofilbcaaLbyt
import Derived.Test.YtllpeacofilbcaaLtok
set_option linter.unusedSimpArgs false
set_option linter.unusedVariables false
namespace Go.Proofs.Ytllpeacofilbcaa.tk
open Go Go.Ev Go.Sy Go.RowKit
theorem space_con (c : UInt8) : Con Try.prog 30 [.int .u8 c.toNat] [] (.bool (spN c.toNat)) [] :=
  Go.Proofs.Ytllpeacofilbcaa.byt.by_con mixed (by kernel_rfl) (Go.Proofs.Ytllpeacofilbcaa.byt.eight (by kernel_rfl) (by kernel_rfl) (by kernel_rfl) (by kernel_rfl) (by kernel_rfl) (by kernel_rfl) (by kernel_rfl) (by kernel_rfl)) c
end Go.Proofs.Ytllpeacofilbcaa.tk
