/- Closed calls that are known. -/
import Derived.Test.YtnglilhmfhmhjaaGreatDoorSz9
import Derived.Test.YtnglilhmfhmhjaaGreatDoorRows
import Derived.Test.YtnglilhmfhmhjaaGreatDoorLcs67
import Derived.Test.YtnglilhmfhmhjaaGreatDoorLcs263
import Derived.Test.YtnglilhmfhmhjaaGreatDoorLcs495
import Derived.Test.YtnglilhmfhmhjaaGreatDoorLcs874
import Derived.Test.YtnglilhmfhmhjaaGreatDoorLcs1113
import Derived.Test.YtnglilhmfhmhjaaGreatDoorLcs1172
import Derived.Test.YtnglilhmfhmhjaaGreatDoorLcs1354
import Derived.Test.YtnglilhmfhmhjaaGreatDoorLcs1584
set_option maxRecDepth 20000
set_option linter.unusedSimpArgs false
set_option linter.unusedVariables false
namespace Go.Proofs.YtnglilhmfhmhjaaGreatDoor.cr
open Go Go.Ev Go.Sy Go.RowKit Go.Proofs.YtnglilhmfhmhjaaGreatDoor.ck
def Lcs : List CEnt := [e_cs67, e_cs263, e_cs495, e_cs874, e_cs1113, e_cs1172, e_cs1354, e_cs1584]
noncomputable def ocs : CallF := oC Tryz.prog Lcs oPr
noncomputable abbrev Ecs : Env := envTl Tryz.prog [] ocs
theorem ocs_ok : CallsOk Tryz.prog ocs := oC_ok (Go.Proofs.YtnglilhmfhmhjaaGreatDoor.ck.all_c cs67_ok (Go.Proofs.YtnglilhmfhmhjaaGreatDoor.ck.all_c cs263_ok (Go.Proofs.YtnglilhmfhmhjaaGreatDoor.ck.all_c cs495_ok (Go.Proofs.YtnglilhmfhmhjaaGreatDoor.ck.all_c cs874_ok (Go.Proofs.YtnglilhmfhmhjaaGreatDoor.ck.all_c cs1113_ok (Go.Proofs.YtnglilhmfhmhjaaGreatDoor.ck.all_c cs1172_ok (Go.Proofs.YtnglilhmfhmhjaaGreatDoor.ck.all_c cs1354_ok (Go.Proofs.YtnglilhmfhmhjaaGreatDoor.ck.all_c cs1584_ok (fun _ h => by simp at h))))))))) oPr_ok
theorem Ecs_calls : CallsOk Tryz.prog (oOf Ecs) := calls_envTl ocs_ok all_nil
theorem Ecs_l : LOk Ecs := lok_envTl _ _ _
end Go.Proofs.YtnglilhmfhmhjaaGreatDoor.cr
