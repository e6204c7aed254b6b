/- Fields that are not too large. -/
import Derived.Test.YteodlmfnkjdhhaaDoorSz9
import Derived.Test.YteodlmfnkjdhhaaDoorRows
import Derived.Test.YteodlmfnkjdhhaaDoorLtkfacts
set_option maxRecDepth 20000
set_option linter.unusedSimpArgs false
set_option linter.unusedVariables false
namespace Go.Proofs.YteodlmfnkjdhhaaDoor.tk
open Go Go.Ev Go.Sy Go.RowKit Go.Proofs.YteodlmfnkjdhhaaDoor.gl
def ShortF (l : List Fl) : Prop := ∀ f ∈ l, f.n.length ≤ 1048576 ∧ f.v.length ≤ 1048576
def ShR (r : Row) : Prop := ShortF (decF r.cells)
end Go.Proofs.YteodlmfnkjdhhaaDoor.tk
