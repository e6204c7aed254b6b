/- HEADERS on new streams, 3 of them allowed: closed calls. -/
import Derived.Test.YtcallecdjebojaaGreatSz9
import Derived.Test.YtcallecdjebojaaGreatRows
import Derived.Test.YtcallecdjebojaaGreatLcfA
set_option maxRecDepth 20000
set_option linter.unusedSimpArgs false
set_option linter.unusedVariables false
namespace Go.Proofs.YtcallecdjebojaaGreat.cf
open Go Go.Ev Go.Sy Go.RowKit Go.Proofs.YtcallecdjebojaaGreat.ck Go.Proofs.YtcallecdjebojaaGreat.cp
theorem b3 : tB 3 = True := by kernel_rfl
theorem f3_0 : tF 3 0 = True := by kernel_rfl
theorem f3_1 : tF 3 1 = True := by kernel_rfl
theorem f3_2 : tF 3 2 = True := by kernel_rfl
theorem f3_3 : tF 3 3 = True := by kernel_rfl
theorem f3_4 : tF 3 4 = True := by kernel_rfl
theorem f3_5 : tF 3 5 = True := by kernel_rfl
theorem f3_6 : tF 3 6 = True := by kernel_rfl
theorem f3_7 : tF 3 7 = True := by kernel_rfl
theorem f3_8 : tF 3 8 = True := by kernel_rfl
theorem f3_9 : tF 3 9 = True := by kernel_rfl
theorem f3_10 : tF 3 10 = True := by kernel_rfl
theorem f3_11 : tF 3 11 = True := by kernel_rfl
theorem f3_12 : tF 3 12 = True := by kernel_rfl
theorem f3_13 : tF 3 13 = True := by kernel_rfl
theorem f3_14 : tF 3 14 = True := by kernel_rfl
theorem f3_15 : tF 3 15 = True := by kernel_rfl
theorem f3_16 : tF 3 16 = True := by kernel_rfl
theorem f3_17 : tF 3 17 = True := by kernel_rfl
theorem f3_18 : tF 3 18 = True := by kernel_rfl
theorem f3_19 : tF 3 19 = True := by kernel_rfl
theorem f3 : ∀ i : Nat, i < 20 → tF 3 i = True
  | 0, _ => f3_0
  | 1, _ => f3_1
  | 2, _ => f3_2
  | 3, _ => f3_3
  | 4, _ => f3_4
  | 5, _ => f3_5
  | 6, _ => f3_6
  | 7, _ => f3_7
  | 8, _ => f3_8
  | 9, _ => f3_9
  | 10, _ => f3_10
  | 11, _ => f3_11
  | 12, _ => f3_12
  | 13, _ => f3_13
  | 14, _ => f3_14
  | 15, _ => f3_15
  | 16, _ => f3_16
  | 17, _ => f3_17
  | 18, _ => f3_18
  | 19, _ => f3_19
  | n + 20, h => absurd h (by omega)
end Go.Proofs.YtcallecdjebojaaGreat.cf
