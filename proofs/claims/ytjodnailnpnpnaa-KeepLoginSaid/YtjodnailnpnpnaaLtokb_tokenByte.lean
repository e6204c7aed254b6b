/- A function of one byte. -/
import Derived.Test.YtjodnailnpnpnaaSz9
import Derived.Test.YtjodnailnpnpnaaRows
import Derived.Test.YtjodnailnpnpnaaLbyt
import Derived.Test.YtjodnailnpnpnaaLtok
set_option linter.unusedSimpArgs false
set_option linter.unusedVariables false
namespace Go.Proofs.Ytjodnailnpnpnaa.tk
open Go Go.Ev Go.Sy Go.RowKit
theorem tokenByte_con (c : UInt8) : Con Try.prog 34 [.int .u8 c.toNat] [] (.bool (tokN c.toNat)) [] :=
  Go.Proofs.Ytjodnailnpnpnaa.byt.by_con mixed (by kernel_rfl) (Go.Proofs.Ytjodnailnpnpnaa.byt.eight (by kernel_rfl) (by kernel_rfl) (by kernel_rfl) (by kernel_rfl) (by kernel_rfl) (by kernel_rfl) (by kernel_rfl) (by kernel_rfl)) c
end Go.Proofs.Ytjodnailnpnpnaa.tk
