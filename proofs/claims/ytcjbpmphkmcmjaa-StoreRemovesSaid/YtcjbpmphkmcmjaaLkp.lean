/- What may be kept. -/
import Derived.Test.YtcjbpmphkmcmjaaSz9
import Derived.Test.YtcjbpmphkmcmjaaRows
import Derived.Test.YtcjbpmphkmcmjaaLctl
import Derived.Test.YtcjbpmphkmcmjaaLjoin
set_option maxRecDepth 20000
set_option linter.unusedSimpArgs false
set_option linter.unusedVariables false
namespace Go.Proofs.Ytcjbpmphkmcmjaa.tk
open Go Go.Ev Go.Sy Go.RowKit Go.Proofs.Ytcjbpmphkmcmjaa.gl
def sVary : List UInt8 := [118, 97, 114, 121]
def nmOk (e : List UInt8) : Bool := tokL e && decide (e ≠ [42])
def starE (ps : List (List UInt8)) : Option (List (List UInt8)) := if ps.all nmOk then some (ps.map lowerL) else none
def starL (l : List Fl) : Option (List (List UInt8)) := match splitL (allL l sVary) with
  | none => none
  | some ps => starE ps
def stL (l : List Fl) : List (List UInt8) := (starL l).getD []
def stN (r : Row) : Nat := (stL (decF r.cells)).length
def stC (r : Row) : List Value := gC enS (stL (decF r.cells))
def stB (r : Row) : Bool := (starL (decF r.cells)).isNone
def vaB (r : Row) : Nat := (allL (decF r.cells) sVary).length
theorem star_el (l : List Fl) : starL l = if okSp (allL l sVary) then starE (elSp (allL l sVary)) else none := by
  unfold starL okSp elSp
  cases splitL (allL l sVary) <;> rfl
end Go.Proofs.Ytcjbpmphkmcmjaa.tk
