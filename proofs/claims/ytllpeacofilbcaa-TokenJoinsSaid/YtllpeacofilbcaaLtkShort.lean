/- A text, cut short. -/
import Derived.Test.YtllpeacofilbcaaSz9
import Derived.Test.YtllpeacofilbcaaRows
import Derived.Test.YtllpeacofilbcaaLtok
set_option linter.unusedSimpArgs false
set_option linter.unusedVariables false
namespace Go.Proofs.Ytllpeacofilbcaa.tk
open Go Go.Ev Go.Sy Go.RowKit Go.Proofs.Ytllpeacofilbcaa.gl
def shortS (s : ByteArray) : ByteArray := bs ((L s).take 300)
theorem Sh_vc (l v : List UInt8) : mcall E0 noM 60 20 [.string (bs l)] ⟨mkR (nums 0 []), 0⟩ (retIs 0 (.string (bs v)) []) =
  (br (decide (Int.ofNat (List.length (Array.toList (ByteArray.data (bs l)))) > (300 : Int)))
   (br (decide ((0 : Int) ≤ (↑(0 : Nat) : Int) ∧ (↑(0 : Nat) : Int) ≤ (300 : Int) ∧ (300 : Int) ≤ (↑(List.length (Array.toList (ByteArray.data (bs l)))) : Int)))
    ((bs v = sub (bs l) (0 : Nat) (300 : Nat)) ∧
    True)
    False)
   ((bs v = bs l) ∧
   True)) := by kernel_rfl
theorem Sh_con (l : List UInt8) (hl : l.length ≤ maxLen) : Con Try.prog 20 [.string (bs l)] [] (.string (bs (l.take 300))) [] := by
  refine con_vc (E := E0) mixed (calls_envN _) (lok_envN _) (M := noM) lm_none (Sh_vc l _) ?_
  simp only [ofNat_eq, toNat_cast, Nat.zero_add, Nat.add_zero, Nat.mul_one, List.drop_zero, bCells_len, bCells_drop, bCells_take, bCells_app, bCells_one, bCells_plain, List.length_replicate, List.length_append, List.length_take, List.length_drop, List.take_length, and_true, true_and, and_self, decide_true, List.length_nil, List.length_cons, Nat.sub_zero, dB_mk, dB_ro, List.take_zero, bs_d, sub_bs]
  refine br_if (fun h => br_dec (by omega) ?_) (fun h => ?_)
  · first | rfl | trivial | simp
  · rw [List.take_of_length_le (by omega)]
theorem shortS_bs (l : List UInt8) : shortS (bs l) = bs (l.take 300) := rfl
end Go.Proofs.Ytllpeacofilbcaa.tk
