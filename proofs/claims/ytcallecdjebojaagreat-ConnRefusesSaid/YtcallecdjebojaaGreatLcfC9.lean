/- HEADERS on new streams, 9 of them allowed: closed calls. -/
import Derived.Test.YtcallecdjebojaaGreatSz9
import Derived.Test.YtcallecdjebojaaGreatRows
import Derived.Test.YtcallecdjebojaaGreatLcfA
set_option maxRecDepth 20000
set_option linter.unusedSimpArgs false
set_option linter.unusedVariables false
namespace Go.Proofs.YtcallecdjebojaaGreat.cf
open Go Go.Ev Go.Sy Go.RowKit Go.Proofs.YtcallecdjebojaaGreat.ck Go.Proofs.YtcallecdjebojaaGreat.cp
theorem b9 : tB 9 = True := by kernel_rfl
theorem f9_0 : tF 9 0 = True := by kernel_rfl
theorem f9_1 : tF 9 1 = True := by kernel_rfl
theorem f9_2 : tF 9 2 = True := by kernel_rfl
theorem f9_3 : tF 9 3 = True := by kernel_rfl
theorem f9_4 : tF 9 4 = True := by kernel_rfl
theorem f9_5 : tF 9 5 = True := by kernel_rfl
theorem f9_6 : tF 9 6 = True := by kernel_rfl
theorem f9_7 : tF 9 7 = True := by kernel_rfl
theorem f9_8 : tF 9 8 = True := by kernel_rfl
theorem f9_9 : tF 9 9 = True := by kernel_rfl
theorem f9_10 : tF 9 10 = True := by kernel_rfl
theorem f9_11 : tF 9 11 = True := by kernel_rfl
theorem f9_12 : tF 9 12 = True := by kernel_rfl
theorem f9_13 : tF 9 13 = True := by kernel_rfl
theorem f9_14 : tF 9 14 = True := by kernel_rfl
theorem f9_15 : tF 9 15 = True := by kernel_rfl
theorem f9_16 : tF 9 16 = True := by kernel_rfl
theorem f9_17 : tF 9 17 = True := by kernel_rfl
theorem f9_18 : tF 9 18 = True := by kernel_rfl
theorem f9_19 : tF 9 19 = True := by kernel_rfl
theorem f9 : ∀ i : Nat, i < 20 → tF 9 i = True
  | 0, _ => f9_0
  | 1, _ => f9_1
  | 2, _ => f9_2
  | 3, _ => f9_3
  | 4, _ => f9_4
  | 5, _ => f9_5
  | 6, _ => f9_6
  | 7, _ => f9_7
  | 8, _ => f9_8
  | 9, _ => f9_9
  | 10, _ => f9_10
  | 11, _ => f9_11
  | 12, _ => f9_12
  | 13, _ => f9_13
  | 14, _ => f9_14
  | 15, _ => f9_15
  | 16, _ => f9_16
  | 17, _ => f9_17
  | 18, _ => f9_18
  | 19, _ => f9_19
  | n + 20, h => absurd h (by omega)
end Go.Proofs.YtcallecdjebojaaGreat.cf
