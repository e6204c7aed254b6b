/- HEADERS on new streams, 6 of them allowed: closed calls. -/
import Derived.Test.YtcallecdjebojaaGreatSz9
import Derived.Test.YtcallecdjebojaaGreatRows
import Derived.Test.YtcallecdjebojaaGreatLcfA
set_option maxRecDepth 20000
set_option linter.unusedSimpArgs false
set_option linter.unusedVariables false
namespace Go.Proofs.YtcallecdjebojaaGreat.cf
open Go Go.Ev Go.Sy Go.RowKit Go.Proofs.YtcallecdjebojaaGreat.ck Go.Proofs.YtcallecdjebojaaGreat.cp
theorem b6 : tB 6 = True := by kernel_rfl
theorem f6_0 : tF 6 0 = True := by kernel_rfl
theorem f6_1 : tF 6 1 = True := by kernel_rfl
theorem f6_2 : tF 6 2 = True := by kernel_rfl
theorem f6_3 : tF 6 3 = True := by kernel_rfl
theorem f6_4 : tF 6 4 = True := by kernel_rfl
theorem f6_5 : tF 6 5 = True := by kernel_rfl
theorem f6_6 : tF 6 6 = True := by kernel_rfl
theorem f6_7 : tF 6 7 = True := by kernel_rfl
theorem f6_8 : tF 6 8 = True := by kernel_rfl
theorem f6_9 : tF 6 9 = True := by kernel_rfl
theorem f6_10 : tF 6 10 = True := by kernel_rfl
theorem f6_11 : tF 6 11 = True := by kernel_rfl
theorem f6_12 : tF 6 12 = True := by kernel_rfl
theorem f6_13 : tF 6 13 = True := by kernel_rfl
theorem f6_14 : tF 6 14 = True := by kernel_rfl
theorem f6_15 : tF 6 15 = True := by kernel_rfl
theorem f6_16 : tF 6 16 = True := by kernel_rfl
theorem f6_17 : tF 6 17 = True := by kernel_rfl
theorem f6_18 : tF 6 18 = True := by kernel_rfl
theorem f6_19 : tF 6 19 = True := by kernel_rfl
theorem f6 : ∀ i : Nat, i < 20 → tF 6 i = True
  | 0, _ => f6_0
  | 1, _ => f6_1
  | 2, _ => f6_2
  | 3, _ => f6_3
  | 4, _ => f6_4
  | 5, _ => f6_5
  | 6, _ => f6_6
  | 7, _ => f6_7
  | 8, _ => f6_8
  | 9, _ => f6_9
  | 10, _ => f6_10
  | 11, _ => f6_11
  | 12, _ => f6_12
  | 13, _ => f6_13
  | 14, _ => f6_14
  | 15, _ => f6_15
  | 16, _ => f6_16
  | 17, _ => f6_17
  | 18, _ => f6_18
  | 19, _ => f6_19
  | n + 20, h => absurd h (by omega)
end Go.Proofs.YtcallecdjebojaaGreat.cf
