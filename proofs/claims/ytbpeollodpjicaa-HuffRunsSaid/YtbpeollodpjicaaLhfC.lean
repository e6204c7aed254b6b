/- Codes, sizes, texts encoded. -/
import Derived.Test.YtbpeollodpjicaaSz9
import Derived.Test.YtbpeollodpjicaaRows
import Derived.Test.YtbpeollodpjicaaLhfM
set_option maxRecDepth 20000
set_option linter.unusedSimpArgs false
set_option linter.unusedVariables false
namespace Go.Proofs.Ytbpeollodpjicaa.hf
open Go Go.Ev Go.Sy Go.RowKit Go.Proofs.Ytbpeollodpjicaa.gl Go.Proofs.Ytbpeollodpjicaa.tk
structure GEn where
  l : List UInt8
  out : List UInt8
  i : Nat
  b : List Bool
theorem fB (s : Nat) (h : s < 257) : f3 257 s = hLen s ∧ f3 257 (257 + s) = codeN s ∧ f3 257 (514 + s) = ordN s := by
  obtain ⟨_, _, h3, _⟩ := pos_in s h
  refine ⟨?_, ?_, ?_⟩
  · unfold f3 f2 f1; rw [if_neg (by omega), if_neg (by omega), if_neg (by omega), if_neg (by omega), if_pos h, if_pos h]
  · unfold f3; rw [if_pos (by omega), Nat.add_sub_cancel_left, if_pos h]
  · unfold f3; rw [if_neg (by omega), if_pos (by omega), Nat.add_sub_cancel_left, if_pos h3]
theorem fZ (z : Nat) (h : z < 31) : f3 257 (771 + z) = fstN z ∧ f3 257 (802 + z) = cntN z ∧ f3 257 (833 + z) = stN z := by
  refine ⟨?_, ?_, ?_⟩
  · unfold f3 f2; rw [if_neg (by omega), if_neg (by omega), if_pos (by omega), Nat.add_sub_cancel_left, if_pos (by omega)]
  · unfold f3 f2 f1; rw [if_neg (by omega), if_neg (by omega), if_neg (by omega), if_neg (by omega), if_neg (by omega), if_pos (by omega), Nat.add_sub_cancel_left, cnt_eq z h]
  · unfold f3 f2; rw [if_neg (by omega), if_neg (by omega), if_neg (by omega), if_pos (by omega), Nat.add_sub_cancel_left, if_pos (by omega)]
end Go.Proofs.Ytbpeollodpjicaa.hf
