/- HEADERS on new streams, 1 of them allowed: closed calls. -/
import Derived.Test.YtcallecdjebojaaGreatSz9
import Derived.Test.YtcallecdjebojaaGreatRows
import Derived.Test.YtcallecdjebojaaGreatLcfA
set_option maxRecDepth 20000
set_option linter.unusedSimpArgs false
set_option linter.unusedVariables false
namespace Go.Proofs.YtcallecdjebojaaGreat.cf
open Go Go.Ev Go.Sy Go.RowKit Go.Proofs.YtcallecdjebojaaGreat.ck Go.Proofs.YtcallecdjebojaaGreat.cp
theorem b1 : tB 1 = True := by kernel_rfl
theorem f1_0 : tF 1 0 = True := by kernel_rfl
theorem f1_1 : tF 1 1 = True := by kernel_rfl
theorem f1_2 : tF 1 2 = True := by kernel_rfl
theorem f1_3 : tF 1 3 = True := by kernel_rfl
theorem f1_4 : tF 1 4 = True := by kernel_rfl
theorem f1_5 : tF 1 5 = True := by kernel_rfl
theorem f1_6 : tF 1 6 = True := by kernel_rfl
theorem f1_7 : tF 1 7 = True := by kernel_rfl
theorem f1_8 : tF 1 8 = True := by kernel_rfl
theorem f1_9 : tF 1 9 = True := by kernel_rfl
theorem f1_10 : tF 1 10 = True := by kernel_rfl
theorem f1_11 : tF 1 11 = True := by kernel_rfl
theorem f1_12 : tF 1 12 = True := by kernel_rfl
theorem f1_13 : tF 1 13 = True := by kernel_rfl
theorem f1_14 : tF 1 14 = True := by kernel_rfl
theorem f1_15 : tF 1 15 = True := by kernel_rfl
theorem f1_16 : tF 1 16 = True := by kernel_rfl
theorem f1_17 : tF 1 17 = True := by kernel_rfl
theorem f1_18 : tF 1 18 = True := by kernel_rfl
theorem f1_19 : tF 1 19 = True := by kernel_rfl
theorem f1 : ∀ i : Nat, i < 20 → tF 1 i = True
  | 0, _ => f1_0
  | 1, _ => f1_1
  | 2, _ => f1_2
  | 3, _ => f1_3
  | 4, _ => f1_4
  | 5, _ => f1_5
  | 6, _ => f1_6
  | 7, _ => f1_7
  | 8, _ => f1_8
  | 9, _ => f1_9
  | 10, _ => f1_10
  | 11, _ => f1_11
  | 12, _ => f1_12
  | 13, _ => f1_13
  | 14, _ => f1_14
  | 15, _ => f1_15
  | 16, _ => f1_16
  | 17, _ => f1_17
  | 18, _ => f1_18
  | 19, _ => f1_19
  | n + 20, h => absurd h (by omega)
end Go.Proofs.YtcallecdjebojaaGreat.cf
