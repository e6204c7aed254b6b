/- The second part of what follows: the plain statement. -/
import Derived.Test.YtnglilhmfhmhjaaGreatDoorRows
import Derived.ChangeMaps5
import Derived.ChangeSame
import Derived.ChangeArms
import Derived.Test.YtnglilhmfhmhjaaGreatDoorCards
import Derived.Test.YtnglilhmfhmhjaaGreatDoorTie
import Derived.ProofKit
import Derived.LaidMore
import Derived.OpenShut
import Derived.Stop.Joined
import Derived.Stop.LaidErr
import Derived.SevenTiedAt
import Derived.Lib.LaidTab
import Derived.Test.YtnglilhmfhmhjaaGreatDoorLlawSr
import Derived.Test.YtnglilhmfhmhjaaGreatDoorScriptRunsA
namespace Go.Proofs.YtnglilhmfhmhjaaGreatDoor.scriptRuns
open Go.Ev Go.Sy Go.ChangeShapes Go.WideShapes Go.ChangeAt Go.RowKit
theorem over : Rows.ScriptRunsSaid :=
  OpenClaim.holds_of_wide 3 Tryz.f3 rfl rfl rfl rfl rfl rfl rfl ⟨rfl, rfl, rfl, rfl, rfl⟩ rfl rfl rfl rfl rfl (by kernel_rfl) Tryz.func3 (by kernel_rfl)
    (of_decide_eq_true (by kernel_rfl)) (by unfold Func.isWrapper; first | (rw [if_pos (by decide +kernel)]; kernel_rfl) | (rw [if_neg (by decide +kernel)]; exact ⟨rfl, rfl⟩))
    (fun os started H enc _ => lifted os started H enc)

end Go.Proofs.YtnglilhmfhmhjaaGreatDoor.scriptRuns
