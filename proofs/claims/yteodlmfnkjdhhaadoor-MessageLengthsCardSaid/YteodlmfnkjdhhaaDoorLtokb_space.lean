/- A function of one byte. -/
import Derived.Test.YteodlmfnkjdhhaaDoorSz9
import Derived.Test.YteodlmfnkjdhhaaDoorRows
import Derived.Test.YteodlmfnkjdhhaaDoorLbyt
import Derived.Test.YteodlmfnkjdhhaaDoorLtok
set_option maxRecDepth 20000
set_option linter.unusedSimpArgs false
set_option linter.unusedVariables false
namespace Go.Proofs.YteodlmfnkjdhhaaDoor.tk
open Go Go.Ev Go.Sy Go.RowKit
theorem space_con (c : UInt8) : Con Tryd.prog 31 [.int .u8 c.toNat] [] (.bool (spN c.toNat)) [] :=
  Go.Proofs.YteodlmfnkjdhhaaDoor.byt.by_con mixed (by kernel_rfl) (Go.Proofs.YteodlmfnkjdhhaaDoor.byt.eight (by kernel_rfl) (by kernel_rfl) (by kernel_rfl) (by kernel_rfl) (by kernel_rfl) (by kernel_rfl) (by kernel_rfl) (by kernel_rfl)) c
end Go.Proofs.YteodlmfnkjdhhaaDoor.tk
