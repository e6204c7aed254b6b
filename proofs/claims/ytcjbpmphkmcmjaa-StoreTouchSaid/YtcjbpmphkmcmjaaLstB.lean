/- StoreTouch, more pages. -/
import Derived.Test.YtcjbpmphkmcmjaaSz9
import Derived.Test.YtcjbpmphkmcmjaaRows
import Derived.Test.YtcjbpmphkmcmjaaLstA
set_option linter.unusedSimpArgs false
set_option linter.unusedVariables false
namespace Go.Proofs.Ytcjbpmphkmcmjaa.sx
open Go Go.Ev Go.Sy Go.RowKit Go.Proofs.Ytcjbpmphkmcmjaa.tk
theorem T6_0t_vc (k w : Int) : mlS 6 0 true k w = cnS 6 6 0 k w := by kernel_rfl
theorem T6_0f_vc (k w : Int) : mlS 6 0 false k w = cnS 6 6 0 k w := by kernel_rfl
theorem T6_1t_vc (k w : Int) : mlS 6 1 true k w = cnS 6 6 1 k w := by kernel_rfl
theorem T6_1f_vc (k w : Int) : mlS 6 1 false k w = cnS 6 6 1 k w := by kernel_rfl
theorem T6_2t_vc (k w : Int) : mlS 6 2 true k w = cnS 6 6 2 k w := by kernel_rfl
theorem T6_2f_vc (k w : Int) : mlS 6 2 false k w = cnS 6 6 2 k w := by kernel_rfl
theorem T6_3t_vc (k w : Int) : mlS 6 3 true k w = cnS 6 6 3 k w := by kernel_rfl
theorem T6_3f_vc (k w : Int) : mlS 6 3 false k w = cnS 6 6 3 k w := by kernel_rfl
theorem T6_4t_vc (k w : Int) : mlS 6 4 true k w = cnS 6 6 4 k w := by kernel_rfl
theorem T6_4f_vc (k w : Int) : mlS 6 4 false k w = cnS 6 6 4 k w := by kernel_rfl
theorem T6_5t_vc (k w : Int) : mlS 6 5 true k w = cnS 6 6 5 k w := by kernel_rfl
theorem T6_5f_vc (k w : Int) : mlS 6 5 false k w = cnS 6 6 5 k w := by kernel_rfl
theorem s6 (m : Nat) (h : m < 6) (b : Bool) (k w : Int) : mlS 6 m b k w = cnS 6 6 m k w :=
  match m, b, h with
  | 0, true, _ => T6_0t_vc k w
  | 0, false, _ => T6_0f_vc k w
  | 1, true, _ => T6_1t_vc k w
  | 1, false, _ => T6_1f_vc k w
  | 2, true, _ => T6_2t_vc k w
  | 2, false, _ => T6_2f_vc k w
  | 3, true, _ => T6_3t_vc k w
  | 3, false, _ => T6_3f_vc k w
  | 4, true, _ => T6_4t_vc k w
  | 4, false, _ => T6_4f_vc k w
  | 5, true, _ => T6_5t_vc k w
  | 5, false, _ => T6_5f_vc k w
  | n + 6, _, h => absurd h (by omega)
theorem T7_0t_vc (k w : Int) : mlS 7 0 true k w = cnS 7 7 0 k w := by kernel_rfl
theorem T7_0f_vc (k w : Int) : mlS 7 0 false k w = cnS 7 7 0 k w := by kernel_rfl
theorem T7_1t_vc (k w : Int) : mlS 7 1 true k w = cnS 7 7 1 k w := by kernel_rfl
theorem T7_1f_vc (k w : Int) : mlS 7 1 false k w = cnS 7 7 1 k w := by kernel_rfl
theorem T7_2t_vc (k w : Int) : mlS 7 2 true k w = cnS 7 7 2 k w := by kernel_rfl
theorem T7_2f_vc (k w : Int) : mlS 7 2 false k w = cnS 7 7 2 k w := by kernel_rfl
theorem T7_3t_vc (k w : Int) : mlS 7 3 true k w = cnS 7 7 3 k w := by kernel_rfl
theorem T7_3f_vc (k w : Int) : mlS 7 3 false k w = cnS 7 7 3 k w := by kernel_rfl
theorem T7_4t_vc (k w : Int) : mlS 7 4 true k w = cnS 7 7 4 k w := by kernel_rfl
theorem T7_4f_vc (k w : Int) : mlS 7 4 false k w = cnS 7 7 4 k w := by kernel_rfl
theorem T7_5t_vc (k w : Int) : mlS 7 5 true k w = cnS 7 7 5 k w := by kernel_rfl
theorem T7_5f_vc (k w : Int) : mlS 7 5 false k w = cnS 7 7 5 k w := by kernel_rfl
theorem T7_6t_vc (k w : Int) : mlS 7 6 true k w = cnS 7 7 6 k w := by kernel_rfl
theorem T7_6f_vc (k w : Int) : mlS 7 6 false k w = cnS 7 7 6 k w := by kernel_rfl
theorem s7 (m : Nat) (h : m < 7) (b : Bool) (k w : Int) : mlS 7 m b k w = cnS 7 7 m k w :=
  match m, b, h with
  | 0, true, _ => T7_0t_vc k w
  | 0, false, _ => T7_0f_vc k w
  | 1, true, _ => T7_1t_vc k w
  | 1, false, _ => T7_1f_vc k w
  | 2, true, _ => T7_2t_vc k w
  | 2, false, _ => T7_2f_vc k w
  | 3, true, _ => T7_3t_vc k w
  | 3, false, _ => T7_3f_vc k w
  | 4, true, _ => T7_4t_vc k w
  | 4, false, _ => T7_4f_vc k w
  | 5, true, _ => T7_5t_vc k w
  | 5, false, _ => T7_5f_vc k w
  | 6, true, _ => T7_6t_vc k w
  | 6, false, _ => T7_6f_vc k w
  | n + 7, _, h => absurd h (by omega)
end Go.Proofs.Ytcjbpmphkmcmjaa.sx
