/- Closed sentences over texts: what is known of the library, the book of codes and the static table. -/
import Derived.Test.YtnbfhihibgdgpaaGreatDoorSz9
import Derived.Test.YtnbfhihibgdgpaaGreatDoorRows
import Derived.Test.YtnbfhihibgdgpaaGreatDoorLhfB
import Derived.Test.YtnbfhihibgdgpaaGreatDoorLcrT
import Derived.Test.YtnbfhihibgdgpaaGreatDoorLcrK
import Derived.Test.YtnbfhihibgdgpaaGreatDoorLcrS
set_option maxRecDepth 20000
set_option linter.unusedSimpArgs false
set_option linter.unusedVariables false
namespace Go.Proofs.YtnbfhihibgdgpaaGreatDoor.cr
open Go Go.Ev Go.Sy Go.RowKit Go.Proofs.YtnbfhihibgdgpaaGreatDoor.hf
noncomputable def oPq : CallF := oLs [(15, oIt), (329, oSt), (51, oCo), (99, oIx)] oH
noncomputable abbrev EPq : Env := envTl Tryz.prog [] oPq
theorem oPq_ok : CallsOk Tryz.prog oPq := oLs_ok oH_ok _ fun p hp => by
  simp only [List.mem_cons, List.not_mem_nil, or_false] at hp
  rcases hp with rfl | rfl | rfl | rfl
  · exact fun _ _ h => oIt_ok h
  · exact fun _ _ h => oSt_ok h
  · exact fun _ _ h => oCo_ok h
  · exact fun _ _ h => oIx_ok h
theorem EPq_calls : CallsOk Tryz.prog (oOf EPq) := calls_envTl oPq_ok all_nil
theorem EPq_l : LOk EPq := lok_envTl _ _ _
end Go.Proofs.YtnbfhihibgdgpaaGreatDoor.cr
