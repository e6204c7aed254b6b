/- Small facts. -/
import Derived.Test.YtkjppedfedaenaaGreatDoorSz9
import Derived.Test.YtkjppedfedaenaaGreatDoorRows
import Derived.Test.YtkjppedfedaenaaGreatDoorLtok
set_option maxRecDepth 20000
set_option linter.unusedSimpArgs false
set_option linter.unusedVariables false
namespace Go.Proofs.YtkjppedfedaenaaGreatDoor.tk
open Go Go.Ev Go.Sy Go.RowKit Go.Proofs.YtkjppedfedaenaaGreatDoor.gl
theorem dF (l : List Fl) : decF (gRo enF l).cells = l := decF_gC l
theorem tkF (a b : List Fl) : List.take (a.length * 2) (gC enF (a ++ b)) = gC enF a := by rw [← gC_app, ← fLen a, List.take_left]
end Go.Proofs.YtkjppedfedaenaaGreatDoor.tk
