/- What may be kept. -/
import Derived.Test.YtideeogedleabaaSz9
import Derived.Test.YtideeogedleabaaRows
import Derived.Test.YtideeogedleabaaLk9
import Derived.Test.YtideeogedleabaaLjoin
set_option maxRecDepth 20000
set_option linter.unusedSimpArgs false
set_option linter.unusedVariables false
namespace Go.Proofs.Ytideeogedleabaa.tk
open Go Go.Ev Go.Sy Go.RowKit Go.Proofs.Ytideeogedleabaa.gl
def sExp : List UInt8 := [101, 120, 112, 105, 114, 101, 115]
def plB (n : Int) : Bool := [200, 203, 204, 300, 301, 308, 404, 405, 410, 414, 501].contains n
end Go.Proofs.Ytideeogedleabaa.tk
