/- Texts decoded. -/
import Derived.Test.YtbpeollodpjicaaSz9
import Derived.Test.YtbpeollodpjicaaRows
import Derived.Test.YtbpeollodpjicaaLhfC
set_option maxRecDepth 20000
set_option linter.unusedSimpArgs false
set_option linter.unusedVariables false
namespace Go.Proofs.Ytbpeollodpjicaa.hf
open Go Go.Ev Go.Sy Go.RowKit Go.Proofs.Ytbpeollodpjicaa.gl Go.Proofs.Ytbpeollodpjicaa.tk
def bitB (l : List UInt8) : List Bool := l.flatMap fun c => bl 8 c.toNat
structure GD where
  l : List UInt8
  i : Nat
  c : UInt8
  o : List UInt8
  R : List Bool
end Go.Proofs.Ytbpeollodpjicaa.hf
