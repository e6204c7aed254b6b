/- A closed sentence: chapter 30's runs. -/
import Derived.Test.YtnbfhihibgdgpaaGreatDoorSz9
import Derived.Test.YtnbfhihibgdgpaaGreatDoorRows
import Derived.Test.YtnbfhihibgdgpaaGreatDoorLcwW
set_option maxRecDepth 20000
set_option linter.unusedSimpArgs false
set_option linter.unusedVariables false
namespace Go.Proofs.YtnbfhihibgdgpaaGreatDoor.cr
open Go Go.Ev Go.Sy Go.RowKit Go.Proofs.YtnbfhihibgdgpaaGreatDoor.ck
theorem shr_vc (u : Unit) : mcall EcwW noM 5000 3 [] ⟨mkR (nums 0 []), ([] : List Row).length⟩ (retB ([] : List Row).length (.bool true) 0 []) =
  True := by kernel_rfl
theorem shr_law : ConM Tryz.prog 3 [] [] (.bool true) 0 [] := conB (E := EcwW) (n := 5000) (by kernel_rfl) EcwW_calls EcwW_l (shr_vc ()) trivial rfl
end Go.Proofs.YtnbfhihibgdgpaaGreatDoor.cr
