/- Lists of integers as cells. -/
import Derived.Test.YtcjbpmphkmcmjaaSz9
import Derived.Test.YtcjbpmphkmcmjaaRows
set_option maxRecDepth 20000
set_option linter.unusedSimpArgs false
set_option linter.unusedVariables false
namespace Go.Proofs.Ytcjbpmphkmcmjaa.ic
open Go Go.Ev Go.Sy Go.RowKit
def iRo (k : IntKind) (l : List Int) : Row := ⟨iCells k l, true, .cells true⟩
def iOwn (k : IntKind) (l : List Int) : Row := ⟨iCells k l, false, .cells true⟩
def iOf : Value → Int
  | .int _ n => n
  | _ => 0
def dI (r : Row) : List Int := r.cells.map iOf
theorem iCells_len (k : IntKind) (l : List Int) : (iCells k l).length = l.length := by simp [iCells]
theorem iCells_app (k : IntKind) (a b : List Int) : iCells k a ++ iCells k b = iCells k (a ++ b) := by simp [iCells]
theorem iCells_take (k : IntKind) (l : List Int) (n : Nat) : (iCells k l).take n = iCells k (l.take n) := by simp [iCells]
theorem iCells_plain (k : IntKind) (l : List Int) : Plain (iCells k l) := by
  intro v hv; obtain ⟨b, _, rfl⟩ := List.mem_map.1 hv; rfl
theorem iCells_one (k : IntKind) (l : List Int) : allOne (iCells k l) = true := by
  induction l with
  | nil => rfl
  | cons b l ih => exact ih
theorem iCells_get {k : IntKind} {l : List Int} {i : Nat} (h : i < l.length) : (iCells k l)[i]? = some (.int k (l.getD i 0)) := by
  simp [iCells, List.getD, List.getElem?_eq_getElem h]
theorem iCells_cell {k : IntKind} {l : List Int} {i : Nat} (h : i < l.length) : cellI (iCells k l) i = l.getD i 0 := by
  unfold cellI; rw [iCells_get h]
theorem iCells_at {k : IntKind} {l : List Int} {i : Nat} (h : i < l.length) : (iCells k l)[i]? = some (.int k (cellI (iCells k l) i)) := by
  rw [iCells_cell h, iCells_get h]
theorem dI_mk (k : IntKind) (l : List Int) (a : Bool) (o : Ob) : dI ⟨iCells k l, a, o⟩ = l := by
  unfold dI iCells; simp only [List.map_map]
  conv => rhs; rw [← List.map_id l]
  rfl
end Go.Proofs.Ytcjbpmphkmcmjaa.ic
