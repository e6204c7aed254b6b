/- Lists of integers as cells. -/
import Derived.Test.YtcallecdjebojaaGreatSz9
import Derived.Test.YtcallecdjebojaaGreatRows
set_option maxRecDepth 20000
set_option linter.unusedSimpArgs false
set_option linter.unusedVariables false
namespace Go.Proofs.YtcallecdjebojaaGreat.ic
open Go Go.Ev Go.Sy Go.RowKit
def iRo (k : IntKind) (l : List Int) : Row := ⟨iCells k l, true, .cells true⟩
theorem iCells_len (k : IntKind) (l : List Int) : (iCells k l).length = l.length := by simp [iCells]
theorem iCells_plain (k : IntKind) (l : List Int) : Plain (iCells k l) := by
  intro v hv; obtain ⟨b, _, rfl⟩ := List.mem_map.1 hv; rfl
theorem iCells_get {k : IntKind} {l : List Int} {i : Nat} (h : i < l.length) : (iCells k l)[i]? = some (.int k (l.getD i 0)) := by
  simp [iCells, List.getD, List.getElem?_eq_getElem h]
theorem iCells_cell {k : IntKind} {l : List Int} {i : Nat} (h : i < l.length) : cellI (iCells k l) i = l.getD i 0 := by
  unfold cellI; rw [iCells_get h]
end Go.Proofs.YtcallecdjebojaaGreat.ic
