/- A function of one byte. -/
import Derived.Test.YtdbeebannnofpaaSz9
import Derived.Test.YtdbeebannnofpaaRows
import Derived.Test.YtdbeebannnofpaaLbyt
import Derived.Test.YtdbeebannnofpaaLtok
set_option linter.unusedSimpArgs false
set_option linter.unusedVariables false
namespace Go.Proofs.Ytdbeebannnofpaa.tk
open Go Go.Ev Go.Sy Go.RowKit
theorem space_con (c : UInt8) : Con Try.prog 46 [.int .u8 c.toNat] [] (.bool (spN c.toNat)) [] :=
  Go.Proofs.Ytdbeebannnofpaa.byt.by_con mixed (by kernel_rfl) (Go.Proofs.Ytdbeebannnofpaa.byt.eight (by kernel_rfl) (by kernel_rfl) (by kernel_rfl) (by kernel_rfl) (by kernel_rfl) (by kernel_rfl) (by kernel_rfl) (by kernel_rfl)) c
end Go.Proofs.Ytdbeebannnofpaa.tk
