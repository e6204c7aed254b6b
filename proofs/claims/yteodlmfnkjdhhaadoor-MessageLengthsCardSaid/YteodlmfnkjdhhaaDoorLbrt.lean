/- Conditions that hold, taken away. -/
import Derived.Test.YteodlmfnkjdhhaaDoorSz9
import Derived.Test.YteodlmfnkjdhhaaDoorRows
import Derived.Test.YteodlmfnkjdhhaaDoorLtok
set_option maxRecDepth 20000
set_option linter.unusedSimpArgs false
set_option linter.unusedVariables false
namespace Go.Proofs.YteodlmfnkjdhhaaDoor.tk
open Go Go.Ev Go.Sy Go.RowKit Go.Proofs.YteodlmfnkjdhhaaDoor.gl
theorem bs_dd (l : List UInt8) : (bs l).data.toList = l := Eq.trans rfl rfl
end Go.Proofs.YteodlmfnkjdhhaaDoor.tk
