/- Runs of ConnRefuses, 2 streams allowed. -/
import Derived.Test.YtcallecdjebojaaGreatSz9
import Derived.Test.YtcallecdjebojaaGreatRows
import Derived.Test.YtcallecdjebojaaGreatLcfB
set_option maxRecDepth 20000
set_option linter.unusedSimpArgs false
set_option linter.unusedVariables false
namespace Go.Proofs.YtcallecdjebojaaGreat.cf
open Go Go.Ev Go.Sy Go.RowKit Go.Proofs.YtcallecdjebojaaGreat.ck Go.Proofs.YtcallecdjebojaaGreat.cp Go.Proofs.YtcallecdjebojaaGreat.tk
theorem r2_0 (a o : Int) : mlF 2 0 a o = cdR 2 0 a o := by kernel_rfl
theorem r2_1 (a o : Int) : mlF 2 1 a o = cdR 2 1 a o := by kernel_rfl
theorem r2_2 (a o : Int) : mlF 2 2 a o = cdR 2 2 a o := by kernel_rfl
theorem r2_3 (a o : Int) : mlF 2 3 a o = cdR 2 3 a o := by kernel_rfl
theorem r2_4 (a o : Int) : mlF 2 4 a o = cdR 2 4 a o := by kernel_rfl
theorem r2_5 (a o : Int) : mlF 2 5 a o = cdR 2 5 a o := by kernel_rfl
theorem r2_6 (a o : Int) : mlF 2 6 a o = cdR 2 6 a o := by kernel_rfl
theorem r2_7 (a o : Int) : mlF 2 7 a o = cdR 2 7 a o := by kernel_rfl
theorem r2_8 (a o : Int) : mlF 2 8 a o = cdR 2 8 a o := by kernel_rfl
theorem r2_9 (a o : Int) : mlF 2 9 a o = cdR 2 9 a o := by kernel_rfl
theorem r2_10 (a o : Int) : mlF 2 10 a o = cdR 2 10 a o := by kernel_rfl
theorem r2_11 (a o : Int) : mlF 2 11 a o = cdR 2 11 a o := by kernel_rfl
theorem r2_12 (a o : Int) : mlF 2 12 a o = cdR 2 12 a o := by kernel_rfl
theorem r2_13 (a o : Int) : mlF 2 13 a o = cdR 2 13 a o := by kernel_rfl
theorem r2_14 (a o : Int) : mlF 2 14 a o = cdR 2 14 a o := by kernel_rfl
theorem r2_15 (a o : Int) : mlF 2 15 a o = cdR 2 15 a o := by kernel_rfl
theorem r2_16 (a o : Int) : mlF 2 16 a o = cdR 2 16 a o := by kernel_rfl
theorem r2_17 (a o : Int) : mlF 2 17 a o = cdR 2 17 a o := by kernel_rfl
theorem r2_18 (a o : Int) : mlF 2 18 a o = cdR 2 18 a o := by kernel_rfl
theorem r2_19 (a o : Int) : mlF 2 19 a o = cdR 2 19 a o := by kernel_rfl
theorem r2_20 (a o : Int) : mlF 2 20 a o = cdR 2 20 a o := by kernel_rfl
theorem r2 (a o : Int) : ∀ n : Nat, n ≤ 20 → mlF 2 n a o = cdR 2 n a o
  | 0, _ => r2_0 a o
  | 1, _ => r2_1 a o
  | 2, _ => r2_2 a o
  | 3, _ => r2_3 a o
  | 4, _ => r2_4 a o
  | 5, _ => r2_5 a o
  | 6, _ => r2_6 a o
  | 7, _ => r2_7 a o
  | 8, _ => r2_8 a o
  | 9, _ => r2_9 a o
  | 10, _ => r2_10 a o
  | 11, _ => r2_11 a o
  | 12, _ => r2_12 a o
  | 13, _ => r2_13 a o
  | 14, _ => r2_14 a o
  | 15, _ => r2_15 a o
  | 16, _ => r2_16 a o
  | 17, _ => r2_17 a o
  | 18, _ => r2_18 a o
  | 19, _ => r2_19 a o
  | 20, _ => r2_20 a o
  | n + 21, h => absurd h (by omega)
end Go.Proofs.YtcallecdjebojaaGreat.cf
