/- Closed sentences, the book of codes, the static table and decimal numerals known. -/
import Derived.Test.YtkjppedfedaenaaGreatDoorSz9
import Derived.Test.YtkjppedfedaenaaGreatDoorRows
import Derived.Test.YtkjppedfedaenaaGreatDoorLhfB
import Derived.Test.YtkjppedfedaenaaGreatDoorLcrT
import Derived.Test.YtkjppedfedaenaaGreatDoorLcrK
set_option maxRecDepth 20000
set_option linter.unusedSimpArgs false
set_option linter.unusedVariables false
namespace Go.Proofs.YtkjppedfedaenaaGreatDoor.cr
open Go Go.Ev Go.Sy Go.RowKit Go.Proofs.YtkjppedfedaenaaGreatDoor.hf
noncomputable def oPr : CallF := oLs [(196, oIt), (290, oSt)] oH
noncomputable abbrev EPr : Env := envTl Tryz.prog [] oPr
theorem oPr_ok : CallsOk Tryz.prog oPr := oLs_ok oH_ok _ fun p hp => by
  simp only [List.mem_cons, List.not_mem_nil, or_false] at hp
  rcases hp with rfl | rfl
  · exact fun _ _ h => oIt_ok h
  · exact fun _ _ h => oSt_ok h
theorem EPr_calls : CallsOk Tryz.prog (oOf EPr) := calls_envTl oPr_ok all_nil
theorem EPr_l : LOk EPr := lok_envTl _ _ _
end Go.Proofs.YtkjppedfedaenaaGreatDoor.cr
