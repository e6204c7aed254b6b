/- A closed sentence over scripts, the calls of connections known. -/
import Derived.Test.YtnglilhmfhmhjaaGreatDoorSz9
import Derived.Test.YtnglilhmfhmhjaaGreatDoorRows
import Derived.Test.YtnglilhmfhmhjaaGreatDoorLcs
set_option maxRecDepth 20000
set_option linter.unusedSimpArgs false
set_option linter.unusedVariables false
namespace Go.Proofs.YtnglilhmfhmhjaaGreatDoor.cr
open Go Go.Ev Go.Sy Go.RowKit Go.Proofs.YtnglilhmfhmhjaaGreatDoor.ck
theorem sr_vc (u : Unit) : mcall Ecs noM 5000 3 [] ⟨mkR (nums 0 []), ([] : List Row).length⟩ (retB ([] : List Row).length (.bool true) 0 []) = True := by kernel_rfl
theorem sr_law : ConM Tryz.prog 3 [] [] (.bool true) 0 [] := conB (E := Ecs) (n := 5000) (by kernel_rfl) Ecs_calls Ecs_l (sr_vc ()) trivial rfl
end Go.Proofs.YtnglilhmfhmhjaaGreatDoor.cr
