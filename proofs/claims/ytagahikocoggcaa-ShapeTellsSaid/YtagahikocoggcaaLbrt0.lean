/- Conditions that hold, taken away. -/
import Derived.Test.YtagahikocoggcaaSz9
import Derived.Test.YtagahikocoggcaaRows
set_option maxRecDepth 20000
set_option linter.unusedSimpArgs false
set_option linter.unusedVariables false
namespace Go.Proofs.Ytagahikocoggcaa.sh
open Go Go.Ev Go.Sy Go.RowKit
theorem brT {P : Prop} {d : Decidable P} (h : P) (X : Prop) : br (@decide P d) X False = X := by rw [decide_eq_true h]; rfl
theorem br_iff {b : Bool} {p q : Prop} : br b p q ↔ (b = true → p) ∧ (b = false → q) := by cases b <;> simp [br]
theorem br_ff0 (X Y : Prop) : br false X Y = Y := rfl
theorem br_tt0 (X Y : Prop) : br true X Y = X := rfl
theorem bGet (l : List UInt8) (i : Nat) (h : i < l.length) : (bCells l)[i]? = some (.int .u8 ((l.getD i 0).toNat : Nat)) ∧ cellI (bCells l) i = ((l.getD i 0).toNat : Nat) := ⟨bCells_get h, bCells_cell h⟩
theorem isB_eq (l : List UInt8) : IsB ⟨bCells l, true, .cells true⟩ l.length = True := eq_true (isB_mk _ _ rfl)
end Go.Proofs.Ytagahikocoggcaa.sh
