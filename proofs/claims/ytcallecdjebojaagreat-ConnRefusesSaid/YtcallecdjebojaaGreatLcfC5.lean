/- HEADERS on new streams, 5 of them allowed: closed calls. -/
import Derived.Test.YtcallecdjebojaaGreatSz9
import Derived.Test.YtcallecdjebojaaGreatRows
import Derived.Test.YtcallecdjebojaaGreatLcfA
set_option maxRecDepth 20000
set_option linter.unusedSimpArgs false
set_option linter.unusedVariables false
namespace Go.Proofs.YtcallecdjebojaaGreat.cf
open Go Go.Ev Go.Sy Go.RowKit Go.Proofs.YtcallecdjebojaaGreat.ck Go.Proofs.YtcallecdjebojaaGreat.cp
theorem b5 : tB 5 = True := by kernel_rfl
theorem f5_0 : tF 5 0 = True := by kernel_rfl
theorem f5_1 : tF 5 1 = True := by kernel_rfl
theorem f5_2 : tF 5 2 = True := by kernel_rfl
theorem f5_3 : tF 5 3 = True := by kernel_rfl
theorem f5_4 : tF 5 4 = True := by kernel_rfl
theorem f5_5 : tF 5 5 = True := by kernel_rfl
theorem f5_6 : tF 5 6 = True := by kernel_rfl
theorem f5_7 : tF 5 7 = True := by kernel_rfl
theorem f5_8 : tF 5 8 = True := by kernel_rfl
theorem f5_9 : tF 5 9 = True := by kernel_rfl
theorem f5_10 : tF 5 10 = True := by kernel_rfl
theorem f5_11 : tF 5 11 = True := by kernel_rfl
theorem f5_12 : tF 5 12 = True := by kernel_rfl
theorem f5_13 : tF 5 13 = True := by kernel_rfl
theorem f5_14 : tF 5 14 = True := by kernel_rfl
theorem f5_15 : tF 5 15 = True := by kernel_rfl
theorem f5_16 : tF 5 16 = True := by kernel_rfl
theorem f5_17 : tF 5 17 = True := by kernel_rfl
theorem f5_18 : tF 5 18 = True := by kernel_rfl
theorem f5_19 : tF 5 19 = True := by kernel_rfl
theorem f5 : ∀ i : Nat, i < 20 → tF 5 i = True
  | 0, _ => f5_0
  | 1, _ => f5_1
  | 2, _ => f5_2
  | 3, _ => f5_3
  | 4, _ => f5_4
  | 5, _ => f5_5
  | 6, _ => f5_6
  | 7, _ => f5_7
  | 8, _ => f5_8
  | 9, _ => f5_9
  | 10, _ => f5_10
  | 11, _ => f5_11
  | 12, _ => f5_12
  | 13, _ => f5_13
  | 14, _ => f5_14
  | 15, _ => f5_15
  | 16, _ => f5_16
  | 17, _ => f5_17
  | 18, _ => f5_18
  | 19, _ => f5_19
  | n + 20, h => absurd h (by omega)
end Go.Proofs.YtcallecdjebojaaGreat.cf
