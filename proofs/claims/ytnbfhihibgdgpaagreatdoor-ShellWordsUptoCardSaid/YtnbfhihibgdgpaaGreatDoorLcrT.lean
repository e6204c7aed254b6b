/- The static table as a list, for closed sentences. -/
import Derived.Test.YtnbfhihibgdgpaaGreatDoorSz9
import Derived.Test.YtnbfhihibgdgpaaGreatDoorRows
import Derived.Test.YtnbfhihibgdgpaaGreatDoorLcrI
set_option maxRecDepth 20000
set_option linter.unusedSimpArgs false
set_option linter.unusedVariables false
namespace Go.Proofs.YtnbfhihibgdgpaaGreatDoor.cr
open Go Go.Ev Go.Sy Go.RowKit
def staT : List (List UInt8 × List UInt8) := [([58, 97, 117, 116, 104, 111, 114, 105, 116, 121], []), ([58, 109, 101, 116, 104, 111, 100], [71, 69, 84]), ([58, 109, 101, 116, 104, 111, 100], [80, 79, 83, 84]), ([58, 112, 97, 116, 104], [47]), ([58, 112, 97, 116, 104], [47, 105, 110, 100, 101, 120, 46, 104, 116, 109, 108]), ([58, 115, 99, 104, 101, 109, 101], [104, 116, 116, 112]), ([58, 115, 99, 104, 101, 109, 101], [104, 116, 116, 112, 115]), ([58, 115, 116, 97, 116, 117, 115], [50, 48, 48]), ([58, 115, 116, 97, 116, 117, 115], [50, 48, 52]), ([58, 115, 116, 97, 116, 117, 115], [50, 48, 54]), ([58, 115, 116, 97, 116, 117, 115], [51, 48, 52]), ([58, 115, 116, 97, 116, 117, 115], [52, 48, 48]), ([58, 115, 116, 97, 116, 117, 115], [52, 48, 52]), ([58, 115, 116, 97, 116, 117, 115], [53, 48, 48]), ([97, 99, 99, 101, 112, 116, 45, 99, 104, 97, 114, 115, 101, 116], []), ([97, 99, 99, 101, 112, 116, 45, 101, 110, 99, 111, 100, 105, 110, 103], [103, 122, 105, 112, 44, 32, 100, 101, 102, 108, 97, 116, 101]), ([97, 99, 99, 101, 112, 116, 45, 108, 97, 110, 103, 117, 97, 103, 101], []), ([97, 99, 99, 101, 112, 116, 45, 114, 97, 110, 103, 101, 115], []), ([97, 99, 99, 101, 112, 116], []), ([97, 99, 99, 101, 115, 115, 45, 99, 111, 110, 116, 114, 111, 108, 45, 97, 108, 108, 111, 119, 45, 111, 114, 105, 103, 105, 110], []), ([97, 103, 101], []), ([97, 108, 108, 111, 119], []), ([97, 117, 116, 104, 111, 114, 105, 122, 97, 116, 105, 111, 110], []), ([99, 97, 99, 104, 101, 45, 99, 111, 110, 116, 114, 111, 108], []), ([99, 111, 110, 116, 101, 110, 116, 45, 100, 105, 115, 112, 111, 115, 105, 116, 105, 111, 110], []), ([99, 111, 110, 116, 101, 110, 116, 45, 101, 110, 99, 111, 100, 105, 110, 103], []), ([99, 111, 110, 116, 101, 110, 116, 45, 108, 97, 110, 103, 117, 97, 103, 101], []), ([99, 111, 110, 116, 101, 110, 116, 45, 108, 101, 110, 103, 116, 104], []), ([99, 111, 110, 116, 101, 110, 116, 45, 108, 111, 99, 97, 116, 105, 111, 110], []), ([99, 111, 110, 116, 101, 110, 116, 45, 114, 97, 110, 103, 101], []), ([99, 111, 110, 116, 101, 110, 116, 45, 116, 121, 112, 101], []), ([99, 111, 111, 107, 105, 101], []), ([100, 97, 116, 101], []), ([101, 116, 97, 103], []), ([101, 120, 112, 101, 99, 116], []), ([101, 120, 112, 105, 114, 101, 115], []), ([102, 114, 111, 109], []), ([104, 111, 115, 116], []), ([105, 102, 45, 109, 97, 116, 99, 104], []), ([105, 102, 45, 109, 111, 100, 105, 102, 105, 101, 100, 45, 115, 105, 110, 99, 101], []), ([105, 102, 45, 110, 111, 110, 101, 45, 109, 97, 116, 99, 104], []), ([105, 102, 45, 114, 97, 110, 103, 101], []), ([105, 102, 45, 117, 110, 109, 111, 100, 105, 102, 105, 101, 100, 45, 115, 105, 110, 99, 101], []), ([108, 97, 115, 116, 45, 109, 111, 100, 105, 102, 105, 101, 100], []), ([108, 105, 110, 107], []), ([108, 111, 99, 97, 116, 105, 111, 110], []), ([109, 97, 120, 45, 102, 111, 114, 119, 97, 114, 100, 115], []), ([112, 114, 111, 120, 121, 45, 97, 117, 116, 104, 101, 110, 116, 105, 99, 97, 116, 101], []), ([112, 114, 111, 120, 121, 45, 97, 117, 116, 104, 111, 114, 105, 122, 97, 116, 105, 111, 110], []), ([114, 97, 110, 103, 101], []), ([114, 101, 102, 101, 114, 101, 114], []), ([114, 101, 102, 114, 101, 115, 104], []), ([114, 101, 116, 114, 121, 45, 97, 102, 116, 101, 114], []), ([115, 101, 114, 118, 101, 114], []), ([115, 101, 116, 45, 99, 111, 111, 107, 105, 101], []), ([115, 116, 114, 105, 99, 116, 45, 116, 114, 97, 110, 115, 112, 111, 114, 116, 45, 115, 101, 99, 117, 114, 105, 116, 121], []), ([116, 114, 97, 110, 115, 102, 101, 114, 45, 101, 110, 99, 111, 100, 105, 110, 103], []), ([117, 115, 101, 114, 45, 97, 103, 101, 110, 116], []), ([118, 97, 114, 121], []), ([118, 105, 97], []), ([119, 119, 119, 45, 97, 117, 116, 104, 101, 110, 116, 105, 99, 97, 116, 101], [])]
def oSt (args : List Value) : Option Value := match args with
  | [.int .i64 (.ofNat (k + 1))] => (match staT[k]? with | some (a, b) => some (.tuple ⟨[.agg ⟨[.string ⟨⟨a⟩⟩, .string ⟨⟨b⟩⟩]⟩, .bool true]⟩) | none => none)
  | _ => none
noncomputable def stR (k : Nat) : Option Value := ret? (Ev.run Tryz.prog 3000 329 [.int .i64 (Int.ofNat k)] ⟨.leaf, 0⟩)
def eqB : List UInt8 → List UInt8 → Bool
  | [], [] => true
  | a :: l, b :: m => Nat.beq a.toNat b.toNat && eqB l m
  | _, _ => false
noncomputable def okOne (k : Nat) (p : List UInt8 × List UInt8) : Bool := match stR k with
  | some (.tuple ⟨[.agg ⟨[.string a, .string b]⟩, .bool true]⟩) => eqB a.data.toList p.1 && eqB b.data.toList p.2
  | _ => false
noncomputable def okAll : List (List UInt8 × List UInt8) → Nat → Bool
  | [], _ => true
  | p :: l, k => okOne k p && okAll l (k + 1)
theorem sta_1 : okAll (staT.take 16) 1 = true := by kernel_rfl
theorem sta_2 : okAll ((staT.drop 16).take 16) 17 = true := by kernel_rfl
theorem sta_3 : okAll ((staT.drop 32).take 16) 33 = true := by kernel_rfl
theorem sta_4 : okAll (staT.drop 48) 49 = true := by kernel_rfl
theorem eqB_eq : ∀ l m : List UInt8, eqB l m = true → l = m
  | [], [], _ => rfl
  | [], _ :: _, h => by simp [eqB] at h
  | _ :: _, [], h => by simp [eqB] at h
  | a :: l, b :: m, h => by
    simp only [eqB, Bool.and_eq_true] at h
    rw [eqB_eq l m h.2, UInt8.toNat_inj.1 (Nat.eq_of_beq_eq_true h.1)]
theorem okAll_at : ∀ (l : List (List UInt8 × List UInt8)) (k : Nat), okAll l k = true → ∀ (j : Nat) p, l[j]? = some p → okOne (k + j) p = true
  | [], k, _, j, p, h2 => by simp at h2
  | q :: l, k, h, j, p, h2 => by
    simp only [okAll, Bool.and_eq_true] at h
    cases j with
    | zero => simp at h2; subst h2; exact h.1
    | succ j =>
      simp at h2
      have := okAll_at l (k + 1) h.2 j p h2
      rw [show k + 1 + j = k + (j + 1) by omega] at this
      exact this
theorem okOne_all (k : Nat) (p : List UInt8 × List UInt8) (h : staT[k]? = some p) : okOne (k + 1) p = true := by
  have hl : k < 61 := (List.getElem?_eq_some_iff.1 h).1
  rcases Nat.lt_or_ge k 16 with h1 | h1
  · have := okAll_at _ _ sta_1 k p (by rw [List.getElem?_take, if_pos h1]; exact h)
    rwa [show 1 + k = k + 1 by omega] at this
  · rcases Nat.lt_or_ge k 32 with h2 | h2
    · have := okAll_at _ _ sta_2 (k - 16) p (by rw [List.getElem?_take, if_pos (by omega), List.getElem?_drop, show 16 + (k - 16) = k by omega]; exact h)
      rwa [show 17 + (k - 16) = k + 1 by omega] at this
    · rcases Nat.lt_or_ge k 48 with h3 | h3
      · have := okAll_at _ _ sta_3 (k - 32) p (by rw [List.getElem?_take, if_pos (by omega), List.getElem?_drop, show 32 + (k - 32) = k by omega]; exact h)
        rwa [show 33 + (k - 32) = k + 1 by omega] at this
      · have := okAll_at _ _ sta_4 (k - 48) p (by rw [List.getElem?_drop, show 48 + (k - 48) = k by omega]; exact h)
        rwa [show 49 + (k - 48) = k + 1 by omega] at this
theorem oSt_ok {args : List Value} {v : Value} (h : oSt args = some v) : args.all (flat 12) = true ∧ flat 12 v = true ∧ Flat Tryz.prog 329 args v := by
  unfold oSt at h
  split at h
  · rename_i k
    split at h
    · rename_i a0 b0 hp
      simp only [Option.some.injEq] at h
      subst h
      refine ⟨rfl, rfl, fun w hT => ?_⟩
      have ho := okOne_all k (a0, b0) hp
      unfold okOne at ho
      split at ho
      · rename_i a b hr
        rw [Bool.and_eq_true] at ho
        have ea : a = ⟨⟨a0⟩⟩ := by have := eqB_eq _ _ ho.1; simp only at this; rw [← this]
        have eb : b = ⟨⟨b0⟩⟩ := by have := eqB_eq _ _ ho.2; simp only at this; rw [← this]
        subst ea; subst eb
        exact run_closed (by kernel_rfl) (by kernel_rfl) (args := [.int .i64 (Int.ofNat (k + 1))]) rfl rfl hr w hT
      · simp at ho
    · simp at h
  · simp at h
end Go.Proofs.YtnbfhihibgdgpaaGreatDoor.cr
