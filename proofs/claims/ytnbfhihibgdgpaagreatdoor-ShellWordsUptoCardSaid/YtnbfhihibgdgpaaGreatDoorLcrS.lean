/- Library calls that are known, for closed sentences: a byte's count and its place in a text. -/
import Derived.Test.YtnbfhihibgdgpaaGreatDoorSz9
import Derived.Test.YtnbfhihibgdgpaaGreatDoorRows
import Derived.Test.YtnbfhihibgdgpaaGreatDoorLcrI
set_option maxRecDepth 20000
set_option linter.unusedSimpArgs false
set_option linter.unusedVariables false
namespace Go.Proofs.YtnbfhihibgdgpaaGreatDoor.cr
open Go Go.Ev Go.Sy Go.RowKit
def oCo (args : List Value) : Option Value := match args with
  | [.string a, .string ⟨⟨[c]⟩⟩] => some (.int .i64 (.ofNat (a.data.toList.count c)))
  | _ => none
def oIx (args : List Value) : Option Value := match args with
  | [.string a, .int .u8 (.ofNat c)] => some (.int .i64 (Lib.indexByte a.data.toList c.toUInt8))
  | _ => none
noncomputable def eIx : EntM := eFl 99 oIx
theorem below_same (w : World) : Below w.heap.size w w := ⟨rfl, rfl, rfl, Nat.le_refl _, fun _ _ => rfl⟩
theorem oCo_ok {args : List Value} {v : Value} (h : oCo args = some v) : args.all (flat 12) = true ∧ flat 12 v = true ∧ Flat Tryz.prog 51 args v := by
  unfold oCo at h
  split at h
  · rename_i a c
    simp only [Option.some.injEq] at h
    subst h
    refine ⟨rfl, rfl, fun w _ => ?_⟩
    refine (Any.strings_Count_one Tryz.lays138 a c w).mono ?_
    rintro e w' ⟨rfl, rfl⟩
    exact ⟨rfl, below_same _⟩
  · simp at h
theorem oIx_ok {args : List Value} {v : Value} (h : oIx args = some v) : args.all (flat 12) = true ∧ flat 12 v = true ∧ Flat Tryz.prog 99 args v := by
  unfold oIx at h
  split at h
  · rename_i a c
    simp only [Option.some.injEq] at h
    subst h
    refine ⟨rfl, rfl, fun w _ => ?_⟩
    refine (Any.stringslite_IndexByte Tryz.lays217 a (Int.ofNat c) w).mono ?_
    rintro e w' ⟨rfl, rfl⟩
    exact ⟨rfl, below_same _⟩
  · simp at h
theorem eIx_ok : EntOk Tryz.prog eIx := eFl_ok fun _ _ h => oIx_ok h
end Go.Proofs.YtnbfhihibgdgpaaGreatDoor.cr
