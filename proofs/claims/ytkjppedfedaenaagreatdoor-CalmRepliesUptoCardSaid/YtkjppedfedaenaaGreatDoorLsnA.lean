/- Steps, and whether one is not too large. -/
import Derived.Test.YtkjppedfedaenaaGreatDoorSz9
import Derived.Test.YtkjppedfedaenaaGreatDoorRows
import Derived.Test.YtkjppedfedaenaaGreatDoorLtok
set_option maxRecDepth 20000
set_option linter.unusedSimpArgs false
set_option linter.unusedVariables false
namespace Go.Proofs.YtkjppedfedaenaaGreatDoor.sn
open Go Go.Ev Go.Sy Go.RowKit Go.Proofs.YtkjppedfedaenaaGreatDoor.gl Go.Proofs.YtkjppedfedaenaaGreatDoor.tk
theorem sl_ex {α : Type} (f : α) : ∃ g, g = f := ⟨f, rfl⟩
noncomputable def sealV {α : Type} (f : α) : α := Classical.choose (sl_ex f)
theorem sealV_eq {α : Type} (f : α) : sealV f = f := Classical.choose_spec (sl_ex f)
structure Rw where
  n : List UInt8
  v : List UInt8
  h : Int
def enR (r : Rw) : List Value := [.string (bs r.n), .string (bs r.v), .int .i64 r.h]
def slR (r n : Nat) : Value := .slice (some ⟨r, 0, none⟩) n 3
def IsRw (r : Row) (n : Nat) : Prop := ∃ l : List Rw, r = gRo enR l ∧ n = l.length
structure GS where
  k : Int
  a : Int
  b : Int
  c : Int
  l : List Rw
  t : List UInt8
  e : Bool
structure SS where
  i : Nat
  n : Int
theorem enR_k (a : Rw) : (enR a).length = 3 := rfl
theorem enR_p (a : Rw) : Plain (enR a) := by intro v hv; simp [enR] at hv; rcases hv with rfl | rfl | rfl <;> rfl
theorem rGet (l : List Rw) (i : Nat) (h : i < l.length) : (gC enR l)[i * 3]? = some (.string (bs l[i].n)) ∧ (gC enR l)[i * 3 + 1]? = some (.string (bs l[i].v)) ∧ (gC enR l)[i * 3 + 2]? = some (.int .i64 l[i].h) ∧ cellS (gC enR l) (i * 3) = bs l[i].n ∧ cellS (gC enR l) (i * 3 + 1) = bs l[i].v ∧ cellI (gC enR l) (i * 3 + 2) = l[i].h := by
  have h0 := gC_get enR_k l i 0 h (by omega)
  have h1 := gC_get enR_k l i 1 h (by omega)
  have h2 := gC_get enR_k l i 2 h (by omega)
  refine ⟨h0, h1, h2, ?_, ?_, ?_⟩
  · unfold cellS; rw [show (gC enR l)[i * 3]? = _ from h0]; rfl
  · unfold cellS; rw [h1]; rfl
  · unfold cellI; rw [h2]; rfl
theorem rPl (l : List Rw) : Plain (gC enR l) := gC_plain enR_p l
end Go.Proofs.YtkjppedfedaenaaGreatDoor.sn
