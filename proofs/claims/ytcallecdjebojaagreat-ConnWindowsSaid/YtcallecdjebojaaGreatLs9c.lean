/- A frame's size. -/
import Derived.Test.YtcallecdjebojaaGreatSz9
import Derived.Test.YtcallecdjebojaaGreatRows
set_option maxRecDepth 20000
set_option linter.unusedSimpArgs false
set_option linter.unusedVariables false
namespace Go.Proofs.YtcallecdjebojaaGreat.s9
open Go Go.Ev Go.Sy Go.RowKit
theorem mixed : Tryz.prog.follows .mixedOrders = true := by kernel_rfl
noncomputable abbrev E0 : Env := envN Tryz.prog
def rightB (t f s : Int) (n : Nat) : Bool := decide (0 ≤ t ∧ t ≤ 255 ∧ 0 ≤ f ∧ f ≤ 255 ∧ 0 ≤ s ∧ s ≤ 2147483647 ∧ n ≤ 16777215)
def frV (t f s : Int) (r n : Nat) : Value := .agg ⟨[.int .i64 t, .int .i64 f, .int .i64 s, slc r n]⟩
theorem right_vc (t f s : Int) (l : List UInt8) (x : Bool) : mcall E0 noM 60 57 [frV t f s 0 l.length] ⟨mkR (nums 0 [bRo l]), 1⟩ (retIs 1 (.bool x) [bRo l]) =
  (br (decide (t ≥ (0 : Int))) (br (decide (t <= (255 : Int))) (br (decide (f ≥ (0 : Int))) (br (decide (f <= (255 : Int))) (br (decide (s ≥ (0 : Int))) (br (decide (s <=
  (2147483647 : Int))) ((x = decide (Int.ofNat (List.length l) <= (16777215 : Int))) /\ ((Eq (α := List Value) (bCells l) (bCells l)) /\ ((Plain (bCells l)) /\ True))) ((x =
  false) /\ ((Eq (α := List Value) (bCells l) (bCells l)) /\ ((Plain (bCells l)) /\ True)))) ((x = false) /\ ((Eq (α := List Value) (bCells l) (bCells l)) /\ ((Plain (bCells
  l)) /\ True)))) ((x = false) /\ ((Eq (α := List Value) (bCells l) (bCells l)) /\ ((Plain (bCells l)) /\ True)))) ((x = false) /\ ((Eq (α := List Value) (bCells l) (bCells
  l)) /\ ((Plain (bCells l)) /\ True)))) ((x = false) /\ ((Eq (α := List Value) (bCells l) (bCells l)) /\ ((Plain (bCells l)) /\ True)))) ((x = false) /\ ((Eq (α := List
  Value) (bCells l) (bCells l)) /\ ((Plain (bCells l)) /\ True)))) := by kernel_rfl
theorem right_con (t f s : Int) (l : List UInt8) : Con Tryz.prog 57 [frV t f s 0 l.length] [bRo l] (.bool (rightB t f s l.length)) [bRo l] := by
  refine con_vc (E := E0) mixed (calls_envN _) (lok_envN _) (M := noM) lm_none (right_vc t f s l _) ?_
  simp only [ofNat_eq, toNat_cast, Nat.zero_add, Nat.add_zero, Nat.mul_one, List.drop_zero, bCells_len, bCells_drop, bCells_take, bCells_app, bCells_one, bCells_plain, List.length_replicate, List.length_append, List.length_take, List.length_drop, List.take_length, and_true, true_and, and_self, decide_true, List.length_nil, List.length_cons, Nat.sub_zero, dB_mk, dB_ro, List.take_zero]
  unfold rightB
  refine br_if (fun h1 => br_if (fun h2 => br_if (fun h3 => br_if (fun h4 => br_if (fun h5 => br_if (fun h6 => ?_) (fun h6 => ?_)) (fun h5 => ?_)) (fun h4 => ?_)) (fun h3 => ?_)) (fun h2 => ?_)) (fun h1 => ?_)
  · exact decide_eq_decide.2 (by omega)
  all_goals exact decide_eq_false (by omega)
end Go.Proofs.YtcallecdjebojaaGreat.s9
