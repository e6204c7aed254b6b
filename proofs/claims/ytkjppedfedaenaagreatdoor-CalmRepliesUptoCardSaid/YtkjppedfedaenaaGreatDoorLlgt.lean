/- Fields that are not too large. -/
import Derived.Test.YtkjppedfedaenaaGreatDoorSz9
import Derived.Test.YtkjppedfedaenaaGreatDoorRows
import Derived.Test.YtkjppedfedaenaaGreatDoorLtkfacts
set_option maxRecDepth 20000
set_option linter.unusedSimpArgs false
set_option linter.unusedVariables false
namespace Go.Proofs.YtkjppedfedaenaaGreatDoor.tk
open Go Go.Ev Go.Sy Go.RowKit Go.Proofs.YtkjppedfedaenaaGreatDoor.gl
def fOn (f : Fl) : Nat := f.n.length + f.v.length + 1
def lgN : List Fl → Nat
  | [] => 0
  | f :: l => fOn f + lgN l
def lgB (l : List Fl) : Bool := decide (lgN l ≤ 2000)
def lgR (r : Row) : Bool := lgB (decF r.cells)
def ShortF (l : List Fl) : Prop := ∀ f ∈ l, f.n.length ≤ 1048576 ∧ f.v.length ≤ 1048576
def ShR (r : Row) : Prop := ShortF (decF r.cells)
end Go.Proofs.YtkjppedfedaenaaGreatDoor.tk
