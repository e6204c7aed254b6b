/- What may be kept. -/
import Derived.Test.YtideeogedleabaaSz9
import Derived.Test.YtideeogedleabaaRows
import Derived.Test.YtideeogedleabaaLctl
import Derived.Test.YtideeogedleabaaLjoin
set_option maxRecDepth 20000
set_option linter.unusedSimpArgs false
set_option linter.unusedVariables false
namespace Go.Proofs.Ytideeogedleabaa.tk
open Go Go.Ev Go.Sy Go.RowKit Go.Proofs.Ytideeogedleabaa.gl
def sVary : List UInt8 := [118, 97, 114, 121]
def sAuth : List UInt8 := [97, 117, 116, 104, 111, 114, 105, 122, 97, 116, 105, 111, 110]
def sExp : List UInt8 := [101, 120, 112, 105, 114, 101, 115]
def sGET : List UInt8 := [71, 69, 84]
def nmOk (e : List UInt8) : Bool := tokL e && decide (e ≠ [42])
/-- The names that vary tells; none: a star, or what can't be read. -/
def starE (ps : List (List UInt8)) : Option (List (List UInt8)) := if ps.all nmOk then some (ps.map lowerL) else none
def starL (l : List Fl) : Option (List (List UInt8)) := match splitL (allL l sVary) with
  | none => none
  | some ps => starE ps
def stL (l : List Fl) : List (List UInt8) := (starL l).getD []
def stN (r : Row) : Nat := (stL (decF r.cells)).length
def stC (r : Row) : List Value := gC enS (stL (decF r.cells))
def stB (r : Row) : Bool := (starL (decF r.cells)).isNone
def vaB (r : Row) : Nat := (allL (decF r.cells) sVary).length
def plB (n : Int) : Bool := [200, 203, 204, 300, 301, 308, 404, 405, 410, 414, 501].contains n
def hasB (r : Row) (s : ByteArray) : Bool := decide (0 < allN (L s) (decF r.cells))
def mayC (a t : Ct) (star auth exp : Bool) (st : Int) : Bool :=
  !(a.ns || t.ns || t.pv) && !star && !(auth && !t.ms && !t.pb && decide (t.sh < 0)) && (t.pb || decide (0 ≤ t.sh) || decide (0 ≤ t.ma) || exp || plB st)
def mayB (m : List UInt8) (ql : List Fl) (st : Int) (sl : List Fl) : Bool :=
  decide (m = sGET) && decide (200 ≤ st) && decide (st ≠ 206) && decide (st ≠ 304) && mayC (ctlL ql) (ctlL sl) (starL sl).isNone (decide (0 < allN sAuth ql)) (decide (0 < allN sExp sl)) st
def mayR (m : ByteArray) (r0 : Row) (st : Int) (r1 : Row) : Bool := mayB (L m) (decF r0.cells) st (decF r1.cells)
/-- No fields are too large to be looked at. -/
def BigOk (r : Row) : Prop := 3 * lgN (decF r.cells) ≤ 16777000
theorem star_el (l : List Fl) : starL l = if okSp (allL l sVary) then starE (elSp (allL l sVary)) else none := by
  unfold starL okSp elSp
  cases splitL (allL l sVary) <;> rfl
end Go.Proofs.Ytideeogedleabaa.tk
