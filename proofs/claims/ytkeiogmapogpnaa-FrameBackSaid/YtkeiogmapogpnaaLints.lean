/- Lists of integers as cells. -/
import Derived.Test.YtkeiogmapogpnaaSz9
import Derived.Test.YtkeiogmapogpnaaRows
set_option linter.unusedSimpArgs false
set_option linter.unusedVariables false
namespace Go.Proofs.Ytkeiogmapogpnaa.ic
open Go Go.Ev Go.Sy Go.RowKit
def iOwn (k : IntKind) (l : List Int) : Row := ⟨iCells k l, false, .cells true⟩
theorem iCells_len (k : IntKind) (l : List Int) : (iCells k l).length = l.length := by simp [iCells]
theorem iCells_app (k : IntKind) (a b : List Int) : iCells k a ++ iCells k b = iCells k (a ++ b) := by simp [iCells]
theorem iCells_plain (k : IntKind) (l : List Int) : Plain (iCells k l) := by
  intro v hv; obtain ⟨b, _, rfl⟩ := List.mem_map.1 hv; rfl
theorem iCells_get {k : IntKind} {l : List Int} {i : Nat} (h : i < l.length) : (iCells k l)[i]? = some (.int k (l.getD i 0)) := by
  simp [iCells, List.getD, List.getElem?_eq_getElem h]
theorem iCells_cell {k : IntKind} {l : List Int} {i : Nat} (h : i < l.length) : cellI (iCells k l) i = l.getD i 0 := by
  unfold cellI; rw [iCells_get h]
theorem iCells_at {k : IntKind} {l : List Int} {i : Nat} (h : i < l.length) : (iCells k l)[i]? = some (.int k (cellI (iCells k l) i)) := by
  rw [iCells_cell h, iCells_get h]
end Go.Proofs.Ytkeiogmapogpnaa.ic
