/- A function of one byte. -/
import Derived.Test.YteodlmfnkjdhhaaSz9
import Derived.Test.YteodlmfnkjdhhaaRows
import Derived.Test.YteodlmfnkjdhhaaLbyt
import Derived.Test.YteodlmfnkjdhhaaLtok
set_option linter.unusedSimpArgs false
set_option linter.unusedVariables false
namespace Go.Proofs.Yteodlmfnkjdhhaa.tk
open Go Go.Ev Go.Sy Go.RowKit
theorem control_con (c : UInt8) : Con Try.prog 49 [.int .u8 c.toNat] [] (.bool (ctlN c.toNat)) [] :=
  Go.Proofs.Yteodlmfnkjdhhaa.byt.by_con mixed (by kernel_rfl) (Go.Proofs.Yteodlmfnkjdhhaa.byt.eight (by kernel_rfl) (by kernel_rfl) (by kernel_rfl) (by kernel_rfl) (by kernel_rfl) (by kernel_rfl) (by kernel_rfl) (by kernel_rfl)) c
end Go.Proofs.Yteodlmfnkjdhhaa.tk
