/- Runs of ConnRefuses, 8 streams allowed. -/
import Derived.Test.YtcallecdjebojaaGreatSz9
import Derived.Test.YtcallecdjebojaaGreatRows
import Derived.Test.YtcallecdjebojaaGreatLcfB
set_option maxRecDepth 20000
set_option linter.unusedSimpArgs false
set_option linter.unusedVariables false
namespace Go.Proofs.YtcallecdjebojaaGreat.cf
open Go Go.Ev Go.Sy Go.RowKit Go.Proofs.YtcallecdjebojaaGreat.ck Go.Proofs.YtcallecdjebojaaGreat.cp Go.Proofs.YtcallecdjebojaaGreat.tk
theorem r8_0 (a o : Int) : mlF 8 0 a o = cdR 8 0 a o := by kernel_rfl
theorem r8_1 (a o : Int) : mlF 8 1 a o = cdR 8 1 a o := by kernel_rfl
theorem r8_2 (a o : Int) : mlF 8 2 a o = cdR 8 2 a o := by kernel_rfl
theorem r8_3 (a o : Int) : mlF 8 3 a o = cdR 8 3 a o := by kernel_rfl
theorem r8_4 (a o : Int) : mlF 8 4 a o = cdR 8 4 a o := by kernel_rfl
theorem r8_5 (a o : Int) : mlF 8 5 a o = cdR 8 5 a o := by kernel_rfl
theorem r8_6 (a o : Int) : mlF 8 6 a o = cdR 8 6 a o := by kernel_rfl
theorem r8_7 (a o : Int) : mlF 8 7 a o = cdR 8 7 a o := by kernel_rfl
theorem r8_8 (a o : Int) : mlF 8 8 a o = cdR 8 8 a o := by kernel_rfl
theorem r8_9 (a o : Int) : mlF 8 9 a o = cdR 8 9 a o := by kernel_rfl
theorem r8_10 (a o : Int) : mlF 8 10 a o = cdR 8 10 a o := by kernel_rfl
theorem r8_11 (a o : Int) : mlF 8 11 a o = cdR 8 11 a o := by kernel_rfl
theorem r8_12 (a o : Int) : mlF 8 12 a o = cdR 8 12 a o := by kernel_rfl
theorem r8_13 (a o : Int) : mlF 8 13 a o = cdR 8 13 a o := by kernel_rfl
theorem r8_14 (a o : Int) : mlF 8 14 a o = cdR 8 14 a o := by kernel_rfl
theorem r8_15 (a o : Int) : mlF 8 15 a o = cdR 8 15 a o := by kernel_rfl
theorem r8_16 (a o : Int) : mlF 8 16 a o = cdR 8 16 a o := by kernel_rfl
theorem r8_17 (a o : Int) : mlF 8 17 a o = cdR 8 17 a o := by kernel_rfl
theorem r8_18 (a o : Int) : mlF 8 18 a o = cdR 8 18 a o := by kernel_rfl
theorem r8_19 (a o : Int) : mlF 8 19 a o = cdR 8 19 a o := by kernel_rfl
theorem r8_20 (a o : Int) : mlF 8 20 a o = cdR 8 20 a o := by kernel_rfl
theorem r8 (a o : Int) : ∀ n : Nat, n ≤ 20 → mlF 8 n a o = cdR 8 n a o
  | 0, _ => r8_0 a o
  | 1, _ => r8_1 a o
  | 2, _ => r8_2 a o
  | 3, _ => r8_3 a o
  | 4, _ => r8_4 a o
  | 5, _ => r8_5 a o
  | 6, _ => r8_6 a o
  | 7, _ => r8_7 a o
  | 8, _ => r8_8 a o
  | 9, _ => r8_9 a o
  | 10, _ => r8_10 a o
  | 11, _ => r8_11 a o
  | 12, _ => r8_12 a o
  | 13, _ => r8_13 a o
  | 14, _ => r8_14 a o
  | 15, _ => r8_15 a o
  | 16, _ => r8_16 a o
  | 17, _ => r8_17 a o
  | 18, _ => r8_18 a o
  | 19, _ => r8_19 a o
  | 20, _ => r8_20 a o
  | n + 21, h => absurd h (by omega)
end Go.Proofs.YtcallecdjebojaaGreat.cf
