/- Lists of integers as cells. -/
import Derived.Test.YtkeiogmapogpnaaSz9
import Derived.Test.YtkeiogmapogpnaaRows
set_option linter.unusedSimpArgs false
set_option linter.unusedVariables false
namespace Go.Proofs.Ytkeiogmapogpnaa.ic
open Go Go.Ev Go.Sy Go.RowKit
def iRo (k : IntKind) (l : List Int) : Row := ⟨iCells k l, true, .cells true⟩
theorem iCells_plain (k : IntKind) (l : List Int) : Plain (iCells k l) := by
  intro v hv; obtain ⟨b, _, rfl⟩ := List.mem_map.1 hv; rfl
end Go.Proofs.Ytkeiogmapogpnaa.ic
