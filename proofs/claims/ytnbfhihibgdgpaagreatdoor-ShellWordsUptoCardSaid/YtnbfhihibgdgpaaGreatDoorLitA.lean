/- Decimal numerals. -/
import Derived.Test.YtnbfhihibgdgpaaGreatDoorSz9
import Derived.Test.YtnbfhihibgdgpaaGreatDoorRows
import Derived.Test.YtnbfhihibgdgpaaGreatDoorLtok
import Derived.Test.YtnbfhihibgdgpaaGreatDoorPlain
set_option maxRecDepth 20000
set_option linter.unusedSimpArgs false
set_option linter.unusedVariables false
namespace Go.Proofs.YtnbfhihibgdgpaaGreatDoor.it
open Go Go.Ev Go.Sy Go.RowKit
theorem exZ {α : Type} (x : α) : ∃ y, y = x := ⟨x, rfl⟩
noncomputable def itoaB : Int → ByteArray := Classical.choose (exZ fun n : Int => (⟨(Lib.itoa n).toArray⟩ : ByteArray))
noncomputable def eIt : EntM := entC 15 fun a r => match a, r with
  | [.int .i64 n], [] => some (I64 n, .string (itoaB n), [])
  | _, _ => none
theorem z_itoa (n : Int) : itoaB n = ⟨(Lib.itoa n).toArray⟩ := congrFun (Classical.choose_spec (exZ fun n : Int => (⟨(Lib.itoa n).toArray⟩ : ByteArray))) n
theorem tabIs_of {P : Program} {w : World} {name : String} {g : Nat} (hg : P.globalNamed name = some g) (hn : tabNo = some g) (h : TabW w) : Lib.TabIs P w name .u64 Lib.pow10Tab := by
  obtain ⟨e, fr, h1⟩ := h g hn
  unfold Lib.TabIs World.var?
  rw [hg]
  simp only [Option.bind_some, h1]
  exact congrArg some (show tabCells = _ by kernel_rfl)
theorem below_grow {w : World} (k : Nat) (os : Array Obj) : Below w.heap.size w (Go.Sort.grow (w.drewN k) os) := by
  refine ⟨rfl, rfl, rfl, ?_, fun b hb => ?_⟩
  · show w.heap.size ≤ (w.heap ++ os).size
    rw [Array.size_append]; omega
  · show (w.heap ++ os)[b]? = w.heap[b]?
    rw [Array.getElem?_append_left hb]
theorem it_con (n : Int) (hn : I64 n) : Con Tryz.prog 15 [.int .i64 n] [] (.string (itoaB n)) [] := by
  rw [z_itoa]
  refine con_flat rfl rfl fun w hT => ?_
  have ht := tabIs_of (w := w) Tryz.laysM171.m17 (by kernel_rfl) hT
  refine (Any.strconv_Itoa Tryz.laysM171 n (by unfold I64 at hn; omega) (by unfold I64 at hn; omega) w ht).mono ?_
  rintro e w' ⟨rfl, k, os, rfl⟩
  exact ⟨rfl, below_grow k os⟩
theorem eIt_ok : EntOk Tryz.prog eIt := entC_ok (by
  intro a rows p v news h hp
  split at h <;> simp only [Option.some.injEq, Prod.mk.injEq, reduceCtorEq] at h
  obtain ⟨rfl, rfl, rfl⟩ := h
  exact it_con _ hp)
end Go.Proofs.YtnbfhihibgdgpaaGreatDoor.it
