/- Closed calls that are known. -/
import Derived.Test.YtkjppedfedaenaaGreatDoorSz9
import Derived.Test.YtkjppedfedaenaaGreatDoorRows
import Derived.Test.YtkjppedfedaenaaGreatDoorLcc80
import Derived.Test.YtkjppedfedaenaaGreatDoorLcc279
import Derived.Test.YtkjppedfedaenaaGreatDoorLcc511
import Derived.Test.YtkjppedfedaenaaGreatDoorLcc905
import Derived.Test.YtkjppedfedaenaaGreatDoorLcc1164
import Derived.Test.YtkjppedfedaenaaGreatDoorLcc1228
import Derived.Test.YtkjppedfedaenaaGreatDoorLcc1410
import Derived.Test.YtkjppedfedaenaaGreatDoorLcc1655
set_option maxRecDepth 20000
set_option linter.unusedSimpArgs false
set_option linter.unusedVariables false
namespace Go.Proofs.YtkjppedfedaenaaGreatDoor.cr
open Go Go.Ev Go.Sy Go.RowKit Go.Proofs.YtkjppedfedaenaaGreatDoor.ck
def Lcc : List CEnt := [e_cc80, e_cc279, e_cc511, e_cc905, e_cc1164, e_cc1228, e_cc1410, e_cc1655]
noncomputable def occ : CallF := oC Tryz.prog Lcc oPr
noncomputable abbrev Ecc : Env := envTl Tryz.prog [] occ
theorem occ_ok : CallsOk Tryz.prog occ := oC_ok (Go.Proofs.YtkjppedfedaenaaGreatDoor.ck.all_c cc80_ok (Go.Proofs.YtkjppedfedaenaaGreatDoor.ck.all_c cc279_ok (Go.Proofs.YtkjppedfedaenaaGreatDoor.ck.all_c cc511_ok (Go.Proofs.YtkjppedfedaenaaGreatDoor.ck.all_c cc905_ok (Go.Proofs.YtkjppedfedaenaaGreatDoor.ck.all_c cc1164_ok (Go.Proofs.YtkjppedfedaenaaGreatDoor.ck.all_c cc1228_ok (Go.Proofs.YtkjppedfedaenaaGreatDoor.ck.all_c cc1410_ok (Go.Proofs.YtkjppedfedaenaaGreatDoor.ck.all_c cc1655_ok (fun _ h => by simp at h))))))))) oPr_ok
theorem Ecc_calls : CallsOk Tryz.prog (oOf Ecc) := calls_envTl occ_ok all_nil
theorem Ecc_l : LOk Ecc := lok_envTl _ _ _
end Go.Proofs.YtkjppedfedaenaaGreatDoor.cr
