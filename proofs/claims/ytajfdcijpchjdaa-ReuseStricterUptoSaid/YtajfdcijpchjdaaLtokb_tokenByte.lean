/- A function of one byte. -/
import Derived.Test.YtajfdcijpchjdaaSz9
import Derived.Test.YtajfdcijpchjdaaRows
import Derived.Test.YtajfdcijpchjdaaLbyt
import Derived.Test.YtajfdcijpchjdaaLk9
set_option maxRecDepth 20000
set_option linter.unusedSimpArgs false
set_option linter.unusedVariables false
namespace Go.Proofs.Ytajfdcijpchjdaa.tk
open Go Go.Ev Go.Sy Go.RowKit
theorem tokenByte_con (c : UInt8) : Con Try.prog 77 [.int .u8 c.toNat] [] (.bool (tokN c.toNat)) [] :=
  Go.Proofs.Ytajfdcijpchjdaa.byt.by_con mixed (by kernel_rfl) (Go.Proofs.Ytajfdcijpchjdaa.byt.eight (by kernel_rfl) (by kernel_rfl) (by kernel_rfl) (by kernel_rfl) (by kernel_rfl) (by kernel_rfl) (by kernel_rfl) (by kernel_rfl)) c
end Go.Proofs.Ytajfdcijpchjdaa.tk
