/- What cache-control says: numbers, flags. -/
import Derived.Test.YtcjbpmphkmcmjaaSz9
import Derived.Test.YtcjbpmphkmcmjaaRows
import Derived.Test.YtcjbpmphkmcmjaaLk9
set_option maxRecDepth 20000
set_option linter.unusedSimpArgs false
set_option linter.unusedVariables false
namespace Go.Proofs.Ytcjbpmphkmcmjaa.tk
open Go Go.Ev Go.Sy Go.RowKit Go.Proofs.Ytcjbpmphkmcmjaa.gl
structure Ct where
  ns : Bool
  nc : Bool
  pv : Bool
  pb : Bool
  ms : Bool
  on : Bool
  ma : Int
  sh : Int
  st : Int
  fr : Int
def c0 : Ct := ⟨false, false, false, false, false, false, -1, -1, -1, -1⟩
theorem mk_bs (a : Array UInt8) : ByteArray.mk a = bs a.toList := rfl
end Go.Proofs.Ytcjbpmphkmcmjaa.tk
