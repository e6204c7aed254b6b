/- What is done with a window. -/
import Derived.Test.YtgjhlmelbgikdaaSz9
import Derived.Test.YtgjhlmelbgikdaaRows
set_option linter.unusedSimpArgs false
set_option linter.unusedVariables false
namespace Go.Proofs.Ytgjhlmelbgikdaa.wn
open Go Go.Ev Go.Sy Go.RowKit
theorem mixed : Try.prog.follows .mixedOrders = true := by kernel_rfl
noncomputable abbrev E0 : Env := envN Try.prog
def fitsB (n : Int) : Bool := decide (0 ≤ n ∧ n ≤ 2147483647)
def crB (w n : Int) : Bool := decide (0 ≤ n ∧ n ≤ 2147483647 ∧ w + n ≤ 2147483647)
def tkB (w n : Int) : Bool := decide (0 ≤ n ∧ n ≤ w)
def shB (w o n : Int) : Bool := decide (0 ≤ o ∧ o ≤ 2147483647 ∧ 0 ≤ n ∧ n ≤ 2147483647 ∧ w + n - o ≤ 2147483647 ∧ -2147483647 ≤ w + n - o)
def crL (w n : Int) : Int := if crB w n then w + n else w
def tkL (w n : Int) : Int := if tkB w n then w - n else w
def shL (w o n : Int) : Int := if shB w o n then w + n - o else w
def newL (n : Int) : Int := if fitsB n then n else 0
def newE (n : Int) : Int := if fitsB n then 0 else 1
def winV (n : Int) : Value := .agg #[.int .i64 n]
def WinIn (w : Int) : Prop := -2147483647 ≤ w ∧ w ≤ 2147483647
theorem fits_vc (n : Int) (x : Bool) : mcall E0 noM 60 16 [.int .i64 n] ⟨mkR (nums 0 []), 0⟩ (retIs 0 (.bool x) []) =
  (br (decide (n ≥ (0 : Int)))
   ((x = decide (n ≤ (2147483647 : Int))) ∧
   True)
   ((x = false) ∧
   True)) := by kernel_rfl
theorem new_vc (n x e : Int) : mcall E0 noM 60 13 [.int .i64 n] ⟨mkR (nums 0 []), 0⟩ (retIs 0 (.tuple #[winV x, .int .i64 e]) []) =
  (br (decide (n < (0 : Int)))
   ((x = (0 : Int)) ∧
   ((e = (1 : Int)) ∧
   True))
   (br (decide (n > (2147483647 : Int)))
    ((x = (0 : Int)) ∧
    ((e = (1 : Int)) ∧
    True))
    ((x = n) ∧
    ((e = (0 : Int)) ∧
    True)))) := by kernel_rfl
theorem credit_vc (w n x : Int) (b : Bool) : mcall E0 noM 60 11 [winV w, .int .i64 n] ⟨mkR (nums 0 []), 0⟩ (retIs 0 (.tuple #[winV x, .bool b]) []) =
  (br (decide (n < (0 : Int)))
   ((x = w) ∧
   ((b = false) ∧
   True))
   (br (decide (n > (2147483647 : Int)))
    ((x = w) ∧
    ((b = false) ∧
    True))
    (br (decide (IntKind.wrap IntKind.i64 (w + n) > (2147483647 : Int)))
     ((x = w) ∧
     ((b = false) ∧
     True))
     ((x = IntKind.wrap IntKind.i64 (w + n)) ∧
     ((b = true) ∧
     True))))) := by kernel_rfl
theorem take_vc (w n x : Int) (b : Bool) : mcall E0 noM 60 10 [winV w, .int .i64 n] ⟨mkR (nums 0 []), 0⟩ (retIs 0 (.tuple #[winV x, .bool b]) []) =
  (br (decide (n < (0 : Int)))
   ((x = w) ∧
   ((b = false) ∧
   True))
   (br (decide (n > w))
    ((x = w) ∧
    ((b = false) ∧
    True))
    ((x = IntKind.wrap IntKind.i64 (w - n)) ∧
    ((b = true) ∧
    True)))) := by kernel_rfl
theorem shift_vc (w o n x : Int) (b : Bool) : mcall E0 noM 60 12 [winV w, .int .i64 o, .int .i64 n] ⟨mkR (nums 0 []), 0⟩ (retIs 0 (.tuple #[winV x, .bool b]) []) =
  (br (decide (o < (0 : Int)))
   ((x = w) ∧
   ((b = false) ∧
   True))
   (br (decide (o > (2147483647 : Int)))
    ((x = w) ∧
    ((b = false) ∧
    True))
    (br (decide (n < (0 : Int)))
     ((x = w) ∧
     ((b = false) ∧
     True))
     (br (decide (n > (2147483647 : Int)))
      ((x = w) ∧
      ((b = false) ∧
      True))
      (br (decide (IntKind.wrap IntKind.i64 (IntKind.wrap IntKind.i64 (w + n) - o) > (2147483647 : Int)))
       ((x = w) ∧
       ((b = false) ∧
       True))
       (br (decide (IntKind.wrap IntKind.i64 (IntKind.wrap IntKind.i64 (w + n) - o) < (-2147483647 : Int)))
        ((x = w) ∧
        ((b = false) ∧
        True))
        ((x = IntKind.wrap IntKind.i64 (IntKind.wrap IntKind.i64 (w + n) - o)) ∧
        ((b = true) ∧
        True)))))))) := by kernel_rfl

theorem fits_con (n : Int) : Con Try.prog 16 [.int .i64 n] [] (.bool (fitsB n)) [] := by
  refine con_vc (E := E0) mixed (calls_envN _) (lok_envN _) (M := noM) lm_none (fits_vc n _) ?_
  unfold fitsB
  refine br_if (fun h => ⟨?_, trivial⟩) (fun h => ⟨?_, trivial⟩)
  · exact decide_eq_decide.2 (by omega)
  · exact decide_eq_false (by omega)
theorem new_con (n : Int) : Con Try.prog 13 [.int .i64 n] [] (.tuple #[winV (newL n), .int .i64 (newE n)]) [] := by
  refine con_vc (E := E0) mixed (calls_envN _) (lok_envN _) (M := noM) lm_none (new_vc n _ _) ?_
  unfold newL newE fitsB
  refine br_if (fun h => ?_) (fun h => br_if (fun h' => ?_) (fun h' => ?_))
  · rw [decide_eq_false (by omega)]; exact ⟨rfl, rfl, trivial⟩
  · rw [decide_eq_false (by omega)]; exact ⟨rfl, rfl, trivial⟩
  · rw [decide_eq_true (by omega)]; exact ⟨rfl, rfl, trivial⟩
theorem credit_con (w n : Int) (hw : WinIn w) : Con Try.prog 11 [winV w, .int .i64 n] [] (.tuple #[winV (crL w n), .bool (crB w n)]) [] := by
  refine con_vc (E := E0) mixed (calls_envN _) (lok_envN _) (M := noM) lm_none (credit_vc w n _ _) ?_
  unfold WinIn at hw
  unfold crL crB
  refine br_if (fun h => ?_) (fun h => br_if (fun h' => ?_) (fun h' => ?_))
  · rw [decide_eq_false (by omega)]; exact ⟨rfl, rfl, trivial⟩
  · rw [decide_eq_false (by omega)]; exact ⟨rfl, rfl, trivial⟩
  · rw [wr64_id (by unfold I64; omega)]
    refine br_if (fun h => ?_) (fun h => ?_)
    · rw [decide_eq_false (by omega)]; exact ⟨rfl, rfl, trivial⟩
    · rw [decide_eq_true (by omega)]; exact ⟨rfl, rfl, trivial⟩
theorem take_con (w n : Int) (hw : WinIn w) : Con Try.prog 10 [winV w, .int .i64 n] [] (.tuple #[winV (tkL w n), .bool (tkB w n)]) [] := by
  refine con_vc (E := E0) mixed (calls_envN _) (lok_envN _) (M := noM) lm_none (take_vc w n _ _) ?_
  unfold WinIn at hw
  unfold tkL tkB
  refine br_if (fun h => ?_) (fun h => br_if (fun h' => ?_) (fun h' => ?_))
  · rw [decide_eq_false (by omega)]; exact ⟨rfl, rfl, trivial⟩
  · rw [decide_eq_false (by omega)]; exact ⟨rfl, rfl, trivial⟩
  · rw [wr64_id (by unfold I64; omega), decide_eq_true (by omega)]; exact ⟨rfl, rfl, trivial⟩
theorem shift_con (w o n : Int) (hw : WinIn w) : Con Try.prog 12 [winV w, .int .i64 o, .int .i64 n] [] (.tuple #[winV (shL w o n), .bool (shB w o n)]) [] := by
  refine con_vc (E := E0) mixed (calls_envN _) (lok_envN _) (M := noM) lm_none (shift_vc w o n _ _) ?_
  unfold WinIn at hw
  unfold shL shB
  refine br_if (fun h => ?_) (fun h => br_if (fun h' => ?_) (fun h' => br_if (fun h => ?_) (fun h => br_if (fun h' => ?_) (fun h' => ?_))))
  · rw [decide_eq_false (by omega)]; exact ⟨rfl, rfl, trivial⟩
  · rw [decide_eq_false (by omega)]; exact ⟨rfl, rfl, trivial⟩
  · rw [decide_eq_false (by omega)]; exact ⟨rfl, rfl, trivial⟩
  · rw [decide_eq_false (by omega)]; exact ⟨rfl, rfl, trivial⟩
  · rw [wr64_id (n := w + n) (by unfold I64; omega), wr64_id (by unfold I64; omega)]
    refine br_if (fun h => ?_) (fun h => br_if (fun h => ?_) (fun h => ?_))
    · rw [decide_eq_false (by omega)]; exact ⟨rfl, rfl, trivial⟩
    · rw [decide_eq_false (by omega)]; exact ⟨rfl, rfl, trivial⟩
    · rw [decide_eq_true (by omega)]; exact ⟨rfl, rfl, trivial⟩
end Go.Proofs.Ytgjhlmelbgikdaa.wn
