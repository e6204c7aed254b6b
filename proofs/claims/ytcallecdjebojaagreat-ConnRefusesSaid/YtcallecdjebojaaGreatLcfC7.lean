/- HEADERS on new streams, 7 of them allowed: closed calls. -/
import Derived.Test.YtcallecdjebojaaGreatSz9
import Derived.Test.YtcallecdjebojaaGreatRows
import Derived.Test.YtcallecdjebojaaGreatLcfA
set_option maxRecDepth 20000
set_option linter.unusedSimpArgs false
set_option linter.unusedVariables false
namespace Go.Proofs.YtcallecdjebojaaGreat.cf
open Go Go.Ev Go.Sy Go.RowKit Go.Proofs.YtcallecdjebojaaGreat.ck Go.Proofs.YtcallecdjebojaaGreat.cp
theorem b7 : tB 7 = True := by kernel_rfl
theorem f7_0 : tF 7 0 = True := by kernel_rfl
theorem f7_1 : tF 7 1 = True := by kernel_rfl
theorem f7_2 : tF 7 2 = True := by kernel_rfl
theorem f7_3 : tF 7 3 = True := by kernel_rfl
theorem f7_4 : tF 7 4 = True := by kernel_rfl
theorem f7_5 : tF 7 5 = True := by kernel_rfl
theorem f7_6 : tF 7 6 = True := by kernel_rfl
theorem f7_7 : tF 7 7 = True := by kernel_rfl
theorem f7_8 : tF 7 8 = True := by kernel_rfl
theorem f7_9 : tF 7 9 = True := by kernel_rfl
theorem f7_10 : tF 7 10 = True := by kernel_rfl
theorem f7_11 : tF 7 11 = True := by kernel_rfl
theorem f7_12 : tF 7 12 = True := by kernel_rfl
theorem f7_13 : tF 7 13 = True := by kernel_rfl
theorem f7_14 : tF 7 14 = True := by kernel_rfl
theorem f7_15 : tF 7 15 = True := by kernel_rfl
theorem f7_16 : tF 7 16 = True := by kernel_rfl
theorem f7_17 : tF 7 17 = True := by kernel_rfl
theorem f7_18 : tF 7 18 = True := by kernel_rfl
theorem f7_19 : tF 7 19 = True := by kernel_rfl
theorem f7 : ∀ i : Nat, i < 20 → tF 7 i = True
  | 0, _ => f7_0
  | 1, _ => f7_1
  | 2, _ => f7_2
  | 3, _ => f7_3
  | 4, _ => f7_4
  | 5, _ => f7_5
  | 6, _ => f7_6
  | 7, _ => f7_7
  | 8, _ => f7_8
  | 9, _ => f7_9
  | 10, _ => f7_10
  | 11, _ => f7_11
  | 12, _ => f7_12
  | 13, _ => f7_13
  | 14, _ => f7_14
  | 15, _ => f7_15
  | 16, _ => f7_16
  | 17, _ => f7_17
  | 18, _ => f7_18
  | 19, _ => f7_19
  | n + 20, h => absurd h (by omega)
end Go.Proofs.YtcallecdjebojaaGreat.cf
