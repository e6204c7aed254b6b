/- HEADERS on new streams, 4 of them allowed: closed calls. -/
import Derived.Test.YtcallecdjebojaaGreatSz9
import Derived.Test.YtcallecdjebojaaGreatRows
import Derived.Test.YtcallecdjebojaaGreatLcfA
set_option maxRecDepth 20000
set_option linter.unusedSimpArgs false
set_option linter.unusedVariables false
namespace Go.Proofs.YtcallecdjebojaaGreat.cf
open Go Go.Ev Go.Sy Go.RowKit Go.Proofs.YtcallecdjebojaaGreat.ck Go.Proofs.YtcallecdjebojaaGreat.cp
theorem b4 : tB 4 = True := by kernel_rfl
theorem f4_0 : tF 4 0 = True := by kernel_rfl
theorem f4_1 : tF 4 1 = True := by kernel_rfl
theorem f4_2 : tF 4 2 = True := by kernel_rfl
theorem f4_3 : tF 4 3 = True := by kernel_rfl
theorem f4_4 : tF 4 4 = True := by kernel_rfl
theorem f4_5 : tF 4 5 = True := by kernel_rfl
theorem f4_6 : tF 4 6 = True := by kernel_rfl
theorem f4_7 : tF 4 7 = True := by kernel_rfl
theorem f4_8 : tF 4 8 = True := by kernel_rfl
theorem f4_9 : tF 4 9 = True := by kernel_rfl
theorem f4_10 : tF 4 10 = True := by kernel_rfl
theorem f4_11 : tF 4 11 = True := by kernel_rfl
theorem f4_12 : tF 4 12 = True := by kernel_rfl
theorem f4_13 : tF 4 13 = True := by kernel_rfl
theorem f4_14 : tF 4 14 = True := by kernel_rfl
theorem f4_15 : tF 4 15 = True := by kernel_rfl
theorem f4_16 : tF 4 16 = True := by kernel_rfl
theorem f4_17 : tF 4 17 = True := by kernel_rfl
theorem f4_18 : tF 4 18 = True := by kernel_rfl
theorem f4_19 : tF 4 19 = True := by kernel_rfl
theorem f4 : ∀ i : Nat, i < 20 → tF 4 i = True
  | 0, _ => f4_0
  | 1, _ => f4_1
  | 2, _ => f4_2
  | 3, _ => f4_3
  | 4, _ => f4_4
  | 5, _ => f4_5
  | 6, _ => f4_6
  | 7, _ => f4_7
  | 8, _ => f4_8
  | 9, _ => f4_9
  | 10, _ => f4_10
  | 11, _ => f4_11
  | 12, _ => f4_12
  | 13, _ => f4_13
  | 14, _ => f4_14
  | 15, _ => f4_15
  | 16, _ => f4_16
  | 17, _ => f4_17
  | 18, _ => f4_18
  | 19, _ => f4_19
  | n + 20, h => absurd h (by omega)
end Go.Proofs.YtcallecdjebojaaGreat.cf
