/- StoreTouch, more pages. -/
import Derived.Test.YtcjbpmphkmcmjaaSz9
import Derived.Test.YtcjbpmphkmcmjaaRows
import Derived.Test.YtcjbpmphkmcmjaaLstA
set_option linter.unusedSimpArgs false
set_option linter.unusedVariables false
namespace Go.Proofs.Ytcjbpmphkmcmjaa.sx
open Go Go.Ev Go.Sy Go.RowKit Go.Proofs.Ytcjbpmphkmcmjaa.tk
theorem T9_0t_vc (k w : Int) : mlS 9 0 true k w = cnS 9 9 0 k w := by kernel_rfl
theorem T9_0f_vc (k w : Int) : mlS 9 0 false k w = cnS 9 9 0 k w := by kernel_rfl
theorem T9_1t_vc (k w : Int) : mlS 9 1 true k w = cnS 9 9 1 k w := by kernel_rfl
theorem T9_1f_vc (k w : Int) : mlS 9 1 false k w = cnS 9 9 1 k w := by kernel_rfl
theorem T9_2t_vc (k w : Int) : mlS 9 2 true k w = cnS 9 9 2 k w := by kernel_rfl
theorem T9_2f_vc (k w : Int) : mlS 9 2 false k w = cnS 9 9 2 k w := by kernel_rfl
theorem T9_3t_vc (k w : Int) : mlS 9 3 true k w = cnS 9 9 3 k w := by kernel_rfl
theorem T9_3f_vc (k w : Int) : mlS 9 3 false k w = cnS 9 9 3 k w := by kernel_rfl
theorem T9_4t_vc (k w : Int) : mlS 9 4 true k w = cnS 9 9 4 k w := by kernel_rfl
theorem T9_4f_vc (k w : Int) : mlS 9 4 false k w = cnS 9 9 4 k w := by kernel_rfl
theorem T9_5t_vc (k w : Int) : mlS 9 5 true k w = cnS 9 9 5 k w := by kernel_rfl
theorem T9_5f_vc (k w : Int) : mlS 9 5 false k w = cnS 9 9 5 k w := by kernel_rfl
theorem T9_6t_vc (k w : Int) : mlS 9 6 true k w = cnS 9 9 6 k w := by kernel_rfl
theorem T9_6f_vc (k w : Int) : mlS 9 6 false k w = cnS 9 9 6 k w := by kernel_rfl
theorem T9_7t_vc (k w : Int) : mlS 9 7 true k w = cnS 9 9 7 k w := by kernel_rfl
theorem T9_7f_vc (k w : Int) : mlS 9 7 false k w = cnS 9 9 7 k w := by kernel_rfl
theorem T9_8t_vc (k w : Int) : mlS 9 8 true k w = cnS 9 9 8 k w := by kernel_rfl
theorem T9_8f_vc (k w : Int) : mlS 9 8 false k w = cnS 9 9 8 k w := by kernel_rfl
theorem s9 (m : Nat) (h : m < 9) (b : Bool) (k w : Int) : mlS 9 m b k w = cnS 9 9 m k w :=
  match m, b, h with
  | 0, true, _ => T9_0t_vc k w
  | 0, false, _ => T9_0f_vc k w
  | 1, true, _ => T9_1t_vc k w
  | 1, false, _ => T9_1f_vc k w
  | 2, true, _ => T9_2t_vc k w
  | 2, false, _ => T9_2f_vc k w
  | 3, true, _ => T9_3t_vc k w
  | 3, false, _ => T9_3f_vc k w
  | 4, true, _ => T9_4t_vc k w
  | 4, false, _ => T9_4f_vc k w
  | 5, true, _ => T9_5t_vc k w
  | 5, false, _ => T9_5f_vc k w
  | 6, true, _ => T9_6t_vc k w
  | 6, false, _ => T9_6f_vc k w
  | 7, true, _ => T9_7t_vc k w
  | 7, false, _ => T9_7f_vc k w
  | 8, true, _ => T9_8t_vc k w
  | 8, false, _ => T9_8f_vc k w
  | n + 9, _, h => absurd h (by omega)
end Go.Proofs.Ytcjbpmphkmcmjaa.sx
