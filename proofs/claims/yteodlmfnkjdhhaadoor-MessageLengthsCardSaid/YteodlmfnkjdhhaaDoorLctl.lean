/- What cache-control says: numbers, flags. -/
import Derived.Test.YteodlmfnkjdhhaaDoorSz9
import Derived.Test.YteodlmfnkjdhhaaDoorRows
import Derived.Test.YteodlmfnkjdhhaaDoorLtok
set_option maxRecDepth 20000
set_option linter.unusedSimpArgs false
set_option linter.unusedVariables false
namespace Go.Proofs.YteodlmfnkjdhhaaDoor.tk
open Go Go.Ev Go.Sy Go.RowKit Go.Proofs.YteodlmfnkjdhhaaDoor.gl
structure Ct where
  ns : Bool
  nc : Bool
  pv : Bool
  pb : Bool
  ms : Bool
  on : Bool
  ma : Int
  sh : Int
  st : Int
  fr : Int
def c0 : Ct := ⟨false, false, false, false, false, false, -1, -1, -1, -1⟩
end Go.Proofs.YteodlmfnkjdhhaaDoor.tk
