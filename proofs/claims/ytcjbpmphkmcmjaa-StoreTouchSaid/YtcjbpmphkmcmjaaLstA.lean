/- StoreTouch: what is got is the last to go, what is peeked at goes as if it had not been: each number of pages, each of them, closed. -/
import Derived.Test.YtcjbpmphkmcmjaaSz9
import Derived.Test.YtcjbpmphkmcmjaaRows
import Derived.Test.YtcjbpmphkmcmjaaLwit
set_option linter.unusedSimpArgs false
set_option linter.unusedVariables false
namespace Go.Proofs.Ytcjbpmphkmcmjaa.sx
open Go Go.Ev Go.Sy Go.RowKit Go.Proofs.Ytcjbpmphkmcmjaa.tk
noncomputable def eRunsS : EntM := entC 3 fun a r => match a, r with
  | [], [] => some (True, .bool true, [])
  | _, _ => none
noncomputable def eWn (K W : Int) : EntM := entC 29 fun a r => match a, r with
  | [.int .i64 n, .int .i64 lo, .int .i64 hi], [] => bif decide (lo = 2) then some (inside n 2 9 = K ∧ lo = 2 ∧ hi = 9 ∧ I64 n, .int .i64 K, []) else some (inside n 0 (K - 1) = W ∧ lo = 0 ∧ hi = K - 1 ∧ I64 n ∧ 2 ≤ K ∧ K ≤ 9, .int .i64 W, [])
  | _, _ => none
noncomputable def tSt (K W : Int) : List EntM := [eWn K W, eRunsS]
noncomputable abbrev ESt (K W : Int) : Env := envTc Try.prog (tSt K W)
noncomputable def mlS (K W : Int) (b : Bool) (k w : Int) : Prop := mcall (ESt K W) noM 3000 8 [.int .i64 k, .int .i64 w, .bool b] ⟨mkR (nums 0 []), 0⟩ (retIs 0 (.bool true) [])
def al : Nat → Prop → Prop
  | 0, p => p
  | n + 1, p => AllB (List.take (Int.toNat 0) (List.drop 0 (List.replicate (Int.toNat 0) (Value.int .u8 0)))) ∧ al n p
def cnS (n : Nat) (K W : Int) (k w : Int) : Prop := (((True ∧ (True ∧ (True ∧ True))) ∧ (True ∧ (True ∧ (inside k 2 9 = K ∧ ((2 : Int) = 2 ∧ ((9 : Int) = 9 ∧ I64 k))))))) ∧ al (n + 1) ((((True ∧ (True ∧ (True ∧ True))) ∧ (True ∧ (True ∧ (inside w 0 (K - 1) = W ∧ ((0 : Int) = 0 ∧ (K - 1 = K - 1 ∧ (I64 w ∧ (2 ≤ K ∧ K ≤ 9))))))))) ∧ al 3 ((True ∧ (True ∧ (True ∧ True))) ∧ ((true = true) ∧ True)))
theorem T2_0t_vc (k w : Int) : mlS 2 0 true k w = cnS 2 2 0 k w := by kernel_rfl
theorem T2_0f_vc (k w : Int) : mlS 2 0 false k w = cnS 2 2 0 k w := by kernel_rfl
theorem T2_1t_vc (k w : Int) : mlS 2 1 true k w = cnS 2 2 1 k w := by kernel_rfl
theorem T2_1f_vc (k w : Int) : mlS 2 1 false k w = cnS 2 2 1 k w := by kernel_rfl
theorem s2 (m : Nat) (h : m < 2) (b : Bool) (k w : Int) : mlS 2 m b k w = cnS 2 2 m k w :=
  match m, b, h with
  | 0, true, _ => T2_0t_vc k w
  | 0, false, _ => T2_0f_vc k w
  | 1, true, _ => T2_1t_vc k w
  | 1, false, _ => T2_1f_vc k w
  | n + 2, _, h => absurd h (by omega)
theorem T3_0t_vc (k w : Int) : mlS 3 0 true k w = cnS 3 3 0 k w := by kernel_rfl
theorem T3_0f_vc (k w : Int) : mlS 3 0 false k w = cnS 3 3 0 k w := by kernel_rfl
theorem T3_1t_vc (k w : Int) : mlS 3 1 true k w = cnS 3 3 1 k w := by kernel_rfl
theorem T3_1f_vc (k w : Int) : mlS 3 1 false k w = cnS 3 3 1 k w := by kernel_rfl
theorem T3_2t_vc (k w : Int) : mlS 3 2 true k w = cnS 3 3 2 k w := by kernel_rfl
theorem T3_2f_vc (k w : Int) : mlS 3 2 false k w = cnS 3 3 2 k w := by kernel_rfl
theorem s3 (m : Nat) (h : m < 3) (b : Bool) (k w : Int) : mlS 3 m b k w = cnS 3 3 m k w :=
  match m, b, h with
  | 0, true, _ => T3_0t_vc k w
  | 0, false, _ => T3_0f_vc k w
  | 1, true, _ => T3_1t_vc k w
  | 1, false, _ => T3_1f_vc k w
  | 2, true, _ => T3_2t_vc k w
  | 2, false, _ => T3_2f_vc k w
  | n + 3, _, h => absurd h (by omega)
theorem T4_0t_vc (k w : Int) : mlS 4 0 true k w = cnS 4 4 0 k w := by kernel_rfl
theorem T4_0f_vc (k w : Int) : mlS 4 0 false k w = cnS 4 4 0 k w := by kernel_rfl
theorem T4_1t_vc (k w : Int) : mlS 4 1 true k w = cnS 4 4 1 k w := by kernel_rfl
theorem T4_1f_vc (k w : Int) : mlS 4 1 false k w = cnS 4 4 1 k w := by kernel_rfl
theorem T4_2t_vc (k w : Int) : mlS 4 2 true k w = cnS 4 4 2 k w := by kernel_rfl
theorem T4_2f_vc (k w : Int) : mlS 4 2 false k w = cnS 4 4 2 k w := by kernel_rfl
theorem T4_3t_vc (k w : Int) : mlS 4 3 true k w = cnS 4 4 3 k w := by kernel_rfl
theorem T4_3f_vc (k w : Int) : mlS 4 3 false k w = cnS 4 4 3 k w := by kernel_rfl
theorem s4 (m : Nat) (h : m < 4) (b : Bool) (k w : Int) : mlS 4 m b k w = cnS 4 4 m k w :=
  match m, b, h with
  | 0, true, _ => T4_0t_vc k w
  | 0, false, _ => T4_0f_vc k w
  | 1, true, _ => T4_1t_vc k w
  | 1, false, _ => T4_1f_vc k w
  | 2, true, _ => T4_2t_vc k w
  | 2, false, _ => T4_2f_vc k w
  | 3, true, _ => T4_3t_vc k w
  | 3, false, _ => T4_3f_vc k w
  | n + 4, _, h => absurd h (by omega)
theorem T5_0t_vc (k w : Int) : mlS 5 0 true k w = cnS 5 5 0 k w := by kernel_rfl
theorem T5_0f_vc (k w : Int) : mlS 5 0 false k w = cnS 5 5 0 k w := by kernel_rfl
theorem T5_1t_vc (k w : Int) : mlS 5 1 true k w = cnS 5 5 1 k w := by kernel_rfl
theorem T5_1f_vc (k w : Int) : mlS 5 1 false k w = cnS 5 5 1 k w := by kernel_rfl
theorem T5_2t_vc (k w : Int) : mlS 5 2 true k w = cnS 5 5 2 k w := by kernel_rfl
theorem T5_2f_vc (k w : Int) : mlS 5 2 false k w = cnS 5 5 2 k w := by kernel_rfl
theorem T5_3t_vc (k w : Int) : mlS 5 3 true k w = cnS 5 5 3 k w := by kernel_rfl
theorem T5_3f_vc (k w : Int) : mlS 5 3 false k w = cnS 5 5 3 k w := by kernel_rfl
theorem T5_4t_vc (k w : Int) : mlS 5 4 true k w = cnS 5 5 4 k w := by kernel_rfl
theorem T5_4f_vc (k w : Int) : mlS 5 4 false k w = cnS 5 5 4 k w := by kernel_rfl
theorem s5 (m : Nat) (h : m < 5) (b : Bool) (k w : Int) : mlS 5 m b k w = cnS 5 5 m k w :=
  match m, b, h with
  | 0, true, _ => T5_0t_vc k w
  | 0, false, _ => T5_0f_vc k w
  | 1, true, _ => T5_1t_vc k w
  | 1, false, _ => T5_1f_vc k w
  | 2, true, _ => T5_2t_vc k w
  | 2, false, _ => T5_2f_vc k w
  | 3, true, _ => T5_3t_vc k w
  | 3, false, _ => T5_3f_vc k w
  | 4, true, _ => T5_4t_vc k w
  | 4, false, _ => T5_4f_vc k w
  | n + 5, _, h => absurd h (by omega)
end Go.Proofs.Ytcjbpmphkmcmjaa.sx
