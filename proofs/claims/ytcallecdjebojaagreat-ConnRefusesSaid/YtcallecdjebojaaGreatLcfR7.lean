/- Runs of ConnRefuses, 7 streams allowed. -/
import Derived.Test.YtcallecdjebojaaGreatSz9
import Derived.Test.YtcallecdjebojaaGreatRows
import Derived.Test.YtcallecdjebojaaGreatLcfB
set_option maxRecDepth 20000
set_option linter.unusedSimpArgs false
set_option linter.unusedVariables false
namespace Go.Proofs.YtcallecdjebojaaGreat.cf
open Go Go.Ev Go.Sy Go.RowKit Go.Proofs.YtcallecdjebojaaGreat.ck Go.Proofs.YtcallecdjebojaaGreat.cp Go.Proofs.YtcallecdjebojaaGreat.tk
theorem r7_0 (a o : Int) : mlF 7 0 a o = cdR 7 0 a o := by kernel_rfl
theorem r7_1 (a o : Int) : mlF 7 1 a o = cdR 7 1 a o := by kernel_rfl
theorem r7_2 (a o : Int) : mlF 7 2 a o = cdR 7 2 a o := by kernel_rfl
theorem r7_3 (a o : Int) : mlF 7 3 a o = cdR 7 3 a o := by kernel_rfl
theorem r7_4 (a o : Int) : mlF 7 4 a o = cdR 7 4 a o := by kernel_rfl
theorem r7_5 (a o : Int) : mlF 7 5 a o = cdR 7 5 a o := by kernel_rfl
theorem r7_6 (a o : Int) : mlF 7 6 a o = cdR 7 6 a o := by kernel_rfl
theorem r7_7 (a o : Int) : mlF 7 7 a o = cdR 7 7 a o := by kernel_rfl
theorem r7_8 (a o : Int) : mlF 7 8 a o = cdR 7 8 a o := by kernel_rfl
theorem r7_9 (a o : Int) : mlF 7 9 a o = cdR 7 9 a o := by kernel_rfl
theorem r7_10 (a o : Int) : mlF 7 10 a o = cdR 7 10 a o := by kernel_rfl
theorem r7_11 (a o : Int) : mlF 7 11 a o = cdR 7 11 a o := by kernel_rfl
theorem r7_12 (a o : Int) : mlF 7 12 a o = cdR 7 12 a o := by kernel_rfl
theorem r7_13 (a o : Int) : mlF 7 13 a o = cdR 7 13 a o := by kernel_rfl
theorem r7_14 (a o : Int) : mlF 7 14 a o = cdR 7 14 a o := by kernel_rfl
theorem r7_15 (a o : Int) : mlF 7 15 a o = cdR 7 15 a o := by kernel_rfl
theorem r7_16 (a o : Int) : mlF 7 16 a o = cdR 7 16 a o := by kernel_rfl
theorem r7_17 (a o : Int) : mlF 7 17 a o = cdR 7 17 a o := by kernel_rfl
theorem r7_18 (a o : Int) : mlF 7 18 a o = cdR 7 18 a o := by kernel_rfl
theorem r7_19 (a o : Int) : mlF 7 19 a o = cdR 7 19 a o := by kernel_rfl
theorem r7_20 (a o : Int) : mlF 7 20 a o = cdR 7 20 a o := by kernel_rfl
theorem r7 (a o : Int) : ∀ n : Nat, n ≤ 20 → mlF 7 n a o = cdR 7 n a o
  | 0, _ => r7_0 a o
  | 1, _ => r7_1 a o
  | 2, _ => r7_2 a o
  | 3, _ => r7_3 a o
  | 4, _ => r7_4 a o
  | 5, _ => r7_5 a o
  | 6, _ => r7_6 a o
  | 7, _ => r7_7 a o
  | 8, _ => r7_8 a o
  | 9, _ => r7_9 a o
  | 10, _ => r7_10 a o
  | 11, _ => r7_11 a o
  | 12, _ => r7_12 a o
  | 13, _ => r7_13 a o
  | 14, _ => r7_14 a o
  | 15, _ => r7_15 a o
  | 16, _ => r7_16 a o
  | 17, _ => r7_17 a o
  | 18, _ => r7_18 a o
  | 19, _ => r7_19 a o
  | 20, _ => r7_20 a o
  | n + 21, h => absurd h (by omega)
end Go.Proofs.YtcallecdjebojaaGreat.cf
