/- A function of one byte. -/
import Derived.Test.YthmjapgfnpjgnaaSz9
import Derived.Test.YthmjapgfnpjgnaaRows
import Derived.Test.YthmjapgfnpjgnaaLbyt
import Derived.Test.YthmjapgfnpjgnaaLtok
set_option linter.unusedSimpArgs false
set_option linter.unusedVariables false
namespace Go.Proofs.Ythmjapgfnpjgnaa.tk
open Go Go.Ev Go.Sy Go.RowKit
theorem tokenByte_con (c : UInt8) : Con Try.prog 34 [.int .u8 c.toNat] [] (.bool (tokN c.toNat)) [] :=
  Go.Proofs.Ythmjapgfnpjgnaa.byt.by_con mixed (by kernel_rfl) (Go.Proofs.Ythmjapgfnpjgnaa.byt.eight (by kernel_rfl) (by kernel_rfl) (by kernel_rfl) (by kernel_rfl) (by kernel_rfl) (by kernel_rfl) (by kernel_rfl) (by kernel_rfl)) c
end Go.Proofs.Ythmjapgfnpjgnaa.tk
