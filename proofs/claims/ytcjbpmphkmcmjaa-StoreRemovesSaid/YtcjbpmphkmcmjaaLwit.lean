/- A number that is put between two others. -/
import Derived.Test.YtcjbpmphkmcmjaaSz9
import Derived.Test.YtcjbpmphkmcmjaaRows
import Derived.Test.YtcjbpmphkmcmjaaLk9
set_option maxRecDepth 20000
set_option linter.unusedSimpArgs false
set_option linter.unusedVariables false
namespace Go.Proofs.Ytcjbpmphkmcmjaa.tk
open Go Go.Ev Go.Sy Go.RowKit Go.Proofs.Ytcjbpmphkmcmjaa.gl
def inside (n lo hi : Int) : Int := within n lo hi
theorem within_vc (n lo hi v : Int) : mcall E0 noM 60 29 [.int .i64 n, .int .i64 lo, .int .i64 hi] ⟨mkR (nums 0 []), 0⟩ (retIs 0 (.int .i64 v) []) =
  let z1 := (IntKind.wrap IntKind.i64 (IntKind.wrap IntKind.i64 (hi - lo) + (1 : Int))); (br (IntKind.wrap IntKind.i64 (IntKind.wrap IntKind.i64 (hi - lo) + (1 : Int)) != (0
  : Int)) (br (decide (Int.tmod n z1 < (0 : Int))) ((v = IntKind.wrap IntKind.i64 (lo + IntKind.wrap IntKind.i64 (IntKind.wrap IntKind.i64 (IntKind.wrap IntKind.i64
  (Int.tmod n z1 + hi) - lo) + (1 : Int)))) /\ True) ((v = IntKind.wrap IntKind.i64 (lo + Int.tmod n z1)) /\ True)) False) := by kernel_rfl
theorem within_con (n lo hi : Int) (hn : I64 n) (hl : -1000000000000 ≤ lo) (hh : hi ≤ 1000000000000) (h : lo ≤ hi) : Con Try.prog 29 [.int .i64 n, .int .i64 lo, .int .i64 hi] [] (.int .i64 (inside n lo hi)) [] := by
  refine con_vc (E := E0) mixed (calls_envN _) (lok_envN _) (M := noM) lm_none (within_vc n lo hi _) ?_
  have w1 : IntKind.i64.wrap (hi - lo) = hi - lo := wr64_id (by unfold I64; omega)
  have w2 : IntKind.i64.wrap (hi - lo + 1) = hi - lo + 1 := wr64_id (by unfold I64; omega)
  obtain ⟨k1, k2⟩ := within_eq n (hi - lo + 1) (by omega)
  have k3 := Int.emod_nonneg n (by omega : hi - lo + 1 ≠ 0)
  have k4 := Int.emod_lt_of_pos n (by omega : 0 < hi - lo + 1)
  have k5 : n.tmod (hi - lo + 1) < hi - lo + 1 := Int.tmod_lt_of_pos n (by omega)
  have k6 : -(hi - lo + 1) < n.tmod (hi - lo + 1) := Int.lt_tmod_of_pos n (by omega)
  unfold inside within
  simp only [ofNat_eq, toNat_cast, Nat.zero_add, Nat.add_zero, Nat.mul_one, List.drop_zero, bCells_len, bCells_drop, bCells_take, bCells_app, bCells_one, bCells_plain, List.length_replicate, List.length_append, List.length_take, List.length_drop, List.take_length, and_true, true_and, and_self, decide_true, List.length_nil, List.length_cons, Nat.sub_zero, dB_mk, dB_ro, List.take_zero, w1, w2]
  refine br_b (by simp; omega) (br_if (fun h => ?_) (fun h => ?_))
  · have := k1 h
    rw [wr64_id (n := n.tmod (hi - lo + 1) + hi) (by unfold I64; omega), wr64_id (n := n.tmod (hi - lo + 1) + hi - lo) (by unfold I64; omega), wr64_id (n := n.tmod (hi - lo + 1) + hi - lo + 1) (by unfold I64; omega), wr64_id (by unfold I64; omega)]
    omega
  · have := k2 (by omega)
    rw [wr64_id (by unfold I64; omega)]
    omega
end Go.Proofs.Ytcjbpmphkmcmjaa.tk
