/- A frame behind bytes: the program's. -/
import Derived.Test.YtkeiogmapogpnaaSz9
import Derived.Test.YtkeiogmapogpnaaRows
import Derived.Test.YtkeiogmapogpnaaLs9
set_option linter.unusedSimpArgs false
set_option linter.unusedVariables false
namespace Go.Proofs.Ytkeiogmapogpnaa.s9
open Go Go.Ev Go.Sy Go.RowKit
theorem brTt (X : Prop) : br true X False = X := rfl
end Go.Proofs.Ytkeiogmapogpnaa.s9
