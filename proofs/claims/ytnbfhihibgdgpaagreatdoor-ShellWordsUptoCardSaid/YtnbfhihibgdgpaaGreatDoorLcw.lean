/- Closed calls that are known. -/
import Derived.Test.YtnbfhihibgdgpaaGreatDoorSz9
import Derived.Test.YtnbfhihibgdgpaaGreatDoorRows
import Derived.Test.YtnbfhihibgdgpaaGreatDoorLcw150
import Derived.Test.YtnbfhihibgdgpaaGreatDoorLcw155
set_option maxRecDepth 20000
set_option linter.unusedSimpArgs false
set_option linter.unusedVariables false
namespace Go.Proofs.YtnbfhihibgdgpaaGreatDoor.cr
open Go Go.Ev Go.Sy Go.RowKit Go.Proofs.YtnbfhihibgdgpaaGreatDoor.ck
def Lcw : List CEnt := [e_cw150, e_cw155]
noncomputable def ocw : CallF := oC Tryz.prog Lcw oPq
noncomputable abbrev Ecw : Env := envTl Tryz.prog [] ocw
theorem ocw_ok : CallsOk Tryz.prog ocw := oC_ok (Go.Proofs.YtnbfhihibgdgpaaGreatDoor.ck.all_c cw150_ok (Go.Proofs.YtnbfhihibgdgpaaGreatDoor.ck.all_c cw155_ok (fun _ h => by simp at h))) oPq_ok
theorem Ecw_calls : CallsOk Tryz.prog (oOf Ecw) := calls_envTl ocw_ok all_nil
theorem Ecw_l : LOk Ecw := lok_envTl _ _ _
end Go.Proofs.YtnbfhihibgdgpaaGreatDoor.cr
