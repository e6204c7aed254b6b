/- A closed sentence over rounds, the calls of connections known. -/
import Derived.Test.YtkjppedfedaenaaGreatDoorSz9
import Derived.Test.YtkjppedfedaenaaGreatDoorRows
import Derived.Test.YtkjppedfedaenaaGreatDoorLcc
set_option maxRecDepth 20000
set_option linter.unusedSimpArgs false
set_option linter.unusedVariables false
namespace Go.Proofs.YtkjppedfedaenaaGreatDoor.cr
open Go Go.Ev Go.Sy Go.RowKit Go.Proofs.YtkjppedfedaenaaGreatDoor.ck
theorem cm_vc (u : Unit) : mcall Ecc noM 5000 3 [] ⟨mkR (nums 0 []), ([] : List Row).length⟩ (retB ([] : List Row).length (.bool true) 0 []) = True := by kernel_rfl
theorem cm_law : ConM Tryz.prog 3 [] [] (.bool true) 0 [] := conB (E := Ecc) (n := 5000) (by kernel_rfl) Ecc_calls Ecc_l (cm_vc ()) trivial rfl
end Go.Proofs.YtkjppedfedaenaaGreatDoor.cr
