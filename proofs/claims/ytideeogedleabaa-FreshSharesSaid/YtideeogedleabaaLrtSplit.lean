/- A list's elements, by the document. -/
import Derived.Test.YtideeogedleabaaSz9
import Derived.Test.YtideeogedleabaaRows
import Derived.Test.YtideeogedleabaaLrtTrim
set_option maxRecDepth 20000
set_option linter.unusedSimpArgs false
set_option linter.unusedVariables false
namespace Go.Proofs.Ytideeogedleabaa.tk
open Go Go.Ev Go.Sy Go.RowKit Go.Proofs.Ytideeogedleabaa.gl
structure StRs where
  acc : List (List UInt8)
  st : Nat
  q : Bool
  i : Nat
end Go.Proofs.Ytideeogedleabaa.tk
