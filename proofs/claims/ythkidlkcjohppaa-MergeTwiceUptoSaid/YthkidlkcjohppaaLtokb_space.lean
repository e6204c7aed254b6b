/- A function of one byte. -/
import Derived.Test.YthkidlkcjohppaaSz9
import Derived.Test.YthkidlkcjohppaaRows
import Derived.Test.YthkidlkcjohppaaLbyt
import Derived.Test.YthkidlkcjohppaaLtok
set_option linter.unusedSimpArgs false
set_option linter.unusedVariables false
namespace Go.Proofs.Ythkidlkcjohppaa.tk
open Go Go.Ev Go.Sy Go.RowKit
theorem space_con (c : UInt8) : Con Try.prog 47 [.int .u8 c.toNat] [] (.bool (spN c.toNat)) [] :=
  Go.Proofs.Ythkidlkcjohppaa.byt.by_con mixed (by kernel_rfl) (Go.Proofs.Ythkidlkcjohppaa.byt.eight (by kernel_rfl) (by kernel_rfl) (by kernel_rfl) (by kernel_rfl) (by kernel_rfl) (by kernel_rfl) (by kernel_rfl) (by kernel_rfl)) c
end Go.Proofs.Ythkidlkcjohppaa.tk
