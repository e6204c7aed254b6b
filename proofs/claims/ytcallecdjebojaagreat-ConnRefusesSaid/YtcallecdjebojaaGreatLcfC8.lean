/- HEADERS on new streams, 8 of them allowed: closed calls. -/
import Derived.Test.YtcallecdjebojaaGreatSz9
import Derived.Test.YtcallecdjebojaaGreatRows
import Derived.Test.YtcallecdjebojaaGreatLcfA
set_option maxRecDepth 20000
set_option linter.unusedSimpArgs false
set_option linter.unusedVariables false
namespace Go.Proofs.YtcallecdjebojaaGreat.cf
open Go Go.Ev Go.Sy Go.RowKit Go.Proofs.YtcallecdjebojaaGreat.ck Go.Proofs.YtcallecdjebojaaGreat.cp
theorem b8 : tB 8 = True := by kernel_rfl
theorem f8_0 : tF 8 0 = True := by kernel_rfl
theorem f8_1 : tF 8 1 = True := by kernel_rfl
theorem f8_2 : tF 8 2 = True := by kernel_rfl
theorem f8_3 : tF 8 3 = True := by kernel_rfl
theorem f8_4 : tF 8 4 = True := by kernel_rfl
theorem f8_5 : tF 8 5 = True := by kernel_rfl
theorem f8_6 : tF 8 6 = True := by kernel_rfl
theorem f8_7 : tF 8 7 = True := by kernel_rfl
theorem f8_8 : tF 8 8 = True := by kernel_rfl
theorem f8_9 : tF 8 9 = True := by kernel_rfl
theorem f8_10 : tF 8 10 = True := by kernel_rfl
theorem f8_11 : tF 8 11 = True := by kernel_rfl
theorem f8_12 : tF 8 12 = True := by kernel_rfl
theorem f8_13 : tF 8 13 = True := by kernel_rfl
theorem f8_14 : tF 8 14 = True := by kernel_rfl
theorem f8_15 : tF 8 15 = True := by kernel_rfl
theorem f8_16 : tF 8 16 = True := by kernel_rfl
theorem f8_17 : tF 8 17 = True := by kernel_rfl
theorem f8_18 : tF 8 18 = True := by kernel_rfl
theorem f8_19 : tF 8 19 = True := by kernel_rfl
theorem f8 : ∀ i : Nat, i < 20 → tF 8 i = True
  | 0, _ => f8_0
  | 1, _ => f8_1
  | 2, _ => f8_2
  | 3, _ => f8_3
  | 4, _ => f8_4
  | 5, _ => f8_5
  | 6, _ => f8_6
  | 7, _ => f8_7
  | 8, _ => f8_8
  | 9, _ => f8_9
  | 10, _ => f8_10
  | 11, _ => f8_11
  | 12, _ => f8_12
  | 13, _ => f8_13
  | 14, _ => f8_14
  | 15, _ => f8_15
  | 16, _ => f8_16
  | 17, _ => f8_17
  | 18, _ => f8_18
  | 19, _ => f8_19
  | n + 20, h => absurd h (by omega)
end Go.Proofs.YtcallecdjebojaaGreat.cf
