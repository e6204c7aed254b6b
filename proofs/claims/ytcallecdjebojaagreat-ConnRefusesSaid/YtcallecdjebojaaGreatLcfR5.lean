/- Runs of ConnRefuses, 5 streams allowed. -/
import Derived.Test.YtcallecdjebojaaGreatSz9
import Derived.Test.YtcallecdjebojaaGreatRows
import Derived.Test.YtcallecdjebojaaGreatLcfB
set_option maxRecDepth 20000
set_option linter.unusedSimpArgs false
set_option linter.unusedVariables false
namespace Go.Proofs.YtcallecdjebojaaGreat.cf
open Go Go.Ev Go.Sy Go.RowKit Go.Proofs.YtcallecdjebojaaGreat.ck Go.Proofs.YtcallecdjebojaaGreat.cp Go.Proofs.YtcallecdjebojaaGreat.tk
theorem r5_0 (a o : Int) : mlF 5 0 a o = cdR 5 0 a o := by kernel_rfl
theorem r5_1 (a o : Int) : mlF 5 1 a o = cdR 5 1 a o := by kernel_rfl
theorem r5_2 (a o : Int) : mlF 5 2 a o = cdR 5 2 a o := by kernel_rfl
theorem r5_3 (a o : Int) : mlF 5 3 a o = cdR 5 3 a o := by kernel_rfl
theorem r5_4 (a o : Int) : mlF 5 4 a o = cdR 5 4 a o := by kernel_rfl
theorem r5_5 (a o : Int) : mlF 5 5 a o = cdR 5 5 a o := by kernel_rfl
theorem r5_6 (a o : Int) : mlF 5 6 a o = cdR 5 6 a o := by kernel_rfl
theorem r5_7 (a o : Int) : mlF 5 7 a o = cdR 5 7 a o := by kernel_rfl
theorem r5_8 (a o : Int) : mlF 5 8 a o = cdR 5 8 a o := by kernel_rfl
theorem r5_9 (a o : Int) : mlF 5 9 a o = cdR 5 9 a o := by kernel_rfl
theorem r5_10 (a o : Int) : mlF 5 10 a o = cdR 5 10 a o := by kernel_rfl
theorem r5_11 (a o : Int) : mlF 5 11 a o = cdR 5 11 a o := by kernel_rfl
theorem r5_12 (a o : Int) : mlF 5 12 a o = cdR 5 12 a o := by kernel_rfl
theorem r5_13 (a o : Int) : mlF 5 13 a o = cdR 5 13 a o := by kernel_rfl
theorem r5_14 (a o : Int) : mlF 5 14 a o = cdR 5 14 a o := by kernel_rfl
theorem r5_15 (a o : Int) : mlF 5 15 a o = cdR 5 15 a o := by kernel_rfl
theorem r5_16 (a o : Int) : mlF 5 16 a o = cdR 5 16 a o := by kernel_rfl
theorem r5_17 (a o : Int) : mlF 5 17 a o = cdR 5 17 a o := by kernel_rfl
theorem r5_18 (a o : Int) : mlF 5 18 a o = cdR 5 18 a o := by kernel_rfl
theorem r5_19 (a o : Int) : mlF 5 19 a o = cdR 5 19 a o := by kernel_rfl
theorem r5_20 (a o : Int) : mlF 5 20 a o = cdR 5 20 a o := by kernel_rfl
theorem r5 (a o : Int) : ∀ n : Nat, n ≤ 20 → mlF 5 n a o = cdR 5 n a o
  | 0, _ => r5_0 a o
  | 1, _ => r5_1 a o
  | 2, _ => r5_2 a o
  | 3, _ => r5_3 a o
  | 4, _ => r5_4 a o
  | 5, _ => r5_5 a o
  | 6, _ => r5_6 a o
  | 7, _ => r5_7 a o
  | 8, _ => r5_8 a o
  | 9, _ => r5_9 a o
  | 10, _ => r5_10 a o
  | 11, _ => r5_11 a o
  | 12, _ => r5_12 a o
  | 13, _ => r5_13 a o
  | 14, _ => r5_14 a o
  | 15, _ => r5_15 a o
  | 16, _ => r5_16 a o
  | 17, _ => r5_17 a o
  | 18, _ => r5_18 a o
  | 19, _ => r5_19 a o
  | 20, _ => r5_20 a o
  | n + 21, h => absurd h (by omega)
end Go.Proofs.YtcallecdjebojaaGreat.cf
