/- StoreTouch, more pages. -/
import Derived.Test.YtcjbpmphkmcmjaaSz9
import Derived.Test.YtcjbpmphkmcmjaaRows
import Derived.Test.YtcjbpmphkmcmjaaLstA
set_option linter.unusedSimpArgs false
set_option linter.unusedVariables false
namespace Go.Proofs.Ytcjbpmphkmcmjaa.sx
open Go Go.Ev Go.Sy Go.RowKit Go.Proofs.Ytcjbpmphkmcmjaa.tk
theorem T8_0t_vc (k w : Int) : mlS 8 0 true k w = cnS 8 8 0 k w := by kernel_rfl
theorem T8_0f_vc (k w : Int) : mlS 8 0 false k w = cnS 8 8 0 k w := by kernel_rfl
theorem T8_1t_vc (k w : Int) : mlS 8 1 true k w = cnS 8 8 1 k w := by kernel_rfl
theorem T8_1f_vc (k w : Int) : mlS 8 1 false k w = cnS 8 8 1 k w := by kernel_rfl
theorem T8_2t_vc (k w : Int) : mlS 8 2 true k w = cnS 8 8 2 k w := by kernel_rfl
theorem T8_2f_vc (k w : Int) : mlS 8 2 false k w = cnS 8 8 2 k w := by kernel_rfl
theorem T8_3t_vc (k w : Int) : mlS 8 3 true k w = cnS 8 8 3 k w := by kernel_rfl
theorem T8_3f_vc (k w : Int) : mlS 8 3 false k w = cnS 8 8 3 k w := by kernel_rfl
theorem T8_4t_vc (k w : Int) : mlS 8 4 true k w = cnS 8 8 4 k w := by kernel_rfl
theorem T8_4f_vc (k w : Int) : mlS 8 4 false k w = cnS 8 8 4 k w := by kernel_rfl
theorem T8_5t_vc (k w : Int) : mlS 8 5 true k w = cnS 8 8 5 k w := by kernel_rfl
theorem T8_5f_vc (k w : Int) : mlS 8 5 false k w = cnS 8 8 5 k w := by kernel_rfl
theorem T8_6t_vc (k w : Int) : mlS 8 6 true k w = cnS 8 8 6 k w := by kernel_rfl
theorem T8_6f_vc (k w : Int) : mlS 8 6 false k w = cnS 8 8 6 k w := by kernel_rfl
theorem T8_7t_vc (k w : Int) : mlS 8 7 true k w = cnS 8 8 7 k w := by kernel_rfl
theorem T8_7f_vc (k w : Int) : mlS 8 7 false k w = cnS 8 8 7 k w := by kernel_rfl
theorem s8 (m : Nat) (h : m < 8) (b : Bool) (k w : Int) : mlS 8 m b k w = cnS 8 8 m k w :=
  match m, b, h with
  | 0, true, _ => T8_0t_vc k w
  | 0, false, _ => T8_0f_vc k w
  | 1, true, _ => T8_1t_vc k w
  | 1, false, _ => T8_1f_vc k w
  | 2, true, _ => T8_2t_vc k w
  | 2, false, _ => T8_2f_vc k w
  | 3, true, _ => T8_3t_vc k w
  | 3, false, _ => T8_3f_vc k w
  | 4, true, _ => T8_4t_vc k w
  | 4, false, _ => T8_4f_vc k w
  | 5, true, _ => T8_5t_vc k w
  | 5, false, _ => T8_5f_vc k w
  | 6, true, _ => T8_6t_vc k w
  | 6, false, _ => T8_6f_vc k w
  | 7, true, _ => T8_7t_vc k w
  | 7, false, _ => T8_7f_vc k w
  | n + 8, _, h => absurd h (by omega)
end Go.Proofs.Ytcjbpmphkmcmjaa.sx
