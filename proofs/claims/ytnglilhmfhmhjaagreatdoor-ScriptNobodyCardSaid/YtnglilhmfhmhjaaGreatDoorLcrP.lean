/- Closed sentences, the book of codes, the static table and decimal numerals known. -/
import Derived.Test.YtnglilhmfhmhjaaGreatDoorSz9
import Derived.Test.YtnglilhmfhmhjaaGreatDoorRows
import Derived.Test.YtnglilhmfhmhjaaGreatDoorLhfB
import Derived.Test.YtnglilhmfhmhjaaGreatDoorLcrT
import Derived.Test.YtnglilhmfhmhjaaGreatDoorLcrK
set_option maxRecDepth 20000
set_option linter.unusedSimpArgs false
set_option linter.unusedVariables false
namespace Go.Proofs.YtnglilhmfhmhjaaGreatDoor.cr
open Go Go.Ev Go.Sy Go.RowKit Go.Proofs.YtnglilhmfhmhjaaGreatDoor.hf
noncomputable def oPr : CallF := oLs [(250, oIt), (322, oSt)] oH
noncomputable abbrev EPr : Env := envTl Tryz.prog [] oPr
theorem oPr_ok : CallsOk Tryz.prog oPr := oLs_ok oH_ok _ fun p hp => by
  simp only [List.mem_cons, List.not_mem_nil, or_false] at hp
  rcases hp with rfl | rfl
  · exact fun _ _ h => oIt_ok h
  · exact fun _ _ h => oSt_ok h
theorem EPr_calls : CallsOk Tryz.prog (oOf EPr) := calls_envTl oPr_ok all_nil
theorem EPr_l : LOk EPr := lok_envTl _ _ _
end Go.Proofs.YtnglilhmfhmhjaaGreatDoor.cr
