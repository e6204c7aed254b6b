/- Books of memory: lists of bytes held against each other, copied with room behind, held against their copies. -/
import Derived.Test.YtbpeollodpjicaaSz9
import Derived.Test.YtbpeollodpjicaaRows
set_option maxRecDepth 20000
set_option linter.unusedSimpArgs false
set_option linter.unusedVariables false
namespace Go.Proofs.Ytbpeollodpjicaa.bk
open Go Go.Ev Go.Sy Go.RowKit
noncomputable abbrev E0 : Env := envN Try.prog
structure GSame where
  a : List UInt8
  b : List UInt8
structure GRoomy where
  l : List UInt8
  m : UInt8
structure GInt where
  a : List UInt8
  b : List UInt8
  m : UInt8
theorem mixed : Try.prog.follows .mixedOrders = true := by kernel_rfl
end Go.Proofs.Ytbpeollodpjicaa.bk
