/- HEADERS on new streams, 2 of them allowed: closed calls. -/
import Derived.Test.YtcallecdjebojaaGreatSz9
import Derived.Test.YtcallecdjebojaaGreatRows
import Derived.Test.YtcallecdjebojaaGreatLcfA
set_option maxRecDepth 20000
set_option linter.unusedSimpArgs false
set_option linter.unusedVariables false
namespace Go.Proofs.YtcallecdjebojaaGreat.cf
open Go Go.Ev Go.Sy Go.RowKit Go.Proofs.YtcallecdjebojaaGreat.ck Go.Proofs.YtcallecdjebojaaGreat.cp
theorem b2 : tB 2 = True := by kernel_rfl
theorem f2_0 : tF 2 0 = True := by kernel_rfl
theorem f2_1 : tF 2 1 = True := by kernel_rfl
theorem f2_2 : tF 2 2 = True := by kernel_rfl
theorem f2_3 : tF 2 3 = True := by kernel_rfl
theorem f2_4 : tF 2 4 = True := by kernel_rfl
theorem f2_5 : tF 2 5 = True := by kernel_rfl
theorem f2_6 : tF 2 6 = True := by kernel_rfl
theorem f2_7 : tF 2 7 = True := by kernel_rfl
theorem f2_8 : tF 2 8 = True := by kernel_rfl
theorem f2_9 : tF 2 9 = True := by kernel_rfl
theorem f2_10 : tF 2 10 = True := by kernel_rfl
theorem f2_11 : tF 2 11 = True := by kernel_rfl
theorem f2_12 : tF 2 12 = True := by kernel_rfl
theorem f2_13 : tF 2 13 = True := by kernel_rfl
theorem f2_14 : tF 2 14 = True := by kernel_rfl
theorem f2_15 : tF 2 15 = True := by kernel_rfl
theorem f2_16 : tF 2 16 = True := by kernel_rfl
theorem f2_17 : tF 2 17 = True := by kernel_rfl
theorem f2_18 : tF 2 18 = True := by kernel_rfl
theorem f2_19 : tF 2 19 = True := by kernel_rfl
theorem f2 : ∀ i : Nat, i < 20 → tF 2 i = True
  | 0, _ => f2_0
  | 1, _ => f2_1
  | 2, _ => f2_2
  | 3, _ => f2_3
  | 4, _ => f2_4
  | 5, _ => f2_5
  | 6, _ => f2_6
  | 7, _ => f2_7
  | 8, _ => f2_8
  | 9, _ => f2_9
  | 10, _ => f2_10
  | 11, _ => f2_11
  | 12, _ => f2_12
  | 13, _ => f2_13
  | 14, _ => f2_14
  | 15, _ => f2_15
  | 16, _ => f2_16
  | 17, _ => f2_17
  | 18, _ => f2_18
  | 19, _ => f2_19
  | n + 20, h => absurd h (by omega)
end Go.Proofs.YtcallecdjebojaaGreat.cf
