/- Runs of ConnRefuses, 3 streams allowed. -/
import Derived.Test.YtcallecdjebojaaGreatSz9
import Derived.Test.YtcallecdjebojaaGreatRows
import Derived.Test.YtcallecdjebojaaGreatLcfB
set_option maxRecDepth 20000
set_option linter.unusedSimpArgs false
set_option linter.unusedVariables false
namespace Go.Proofs.YtcallecdjebojaaGreat.cf
open Go Go.Ev Go.Sy Go.RowKit Go.Proofs.YtcallecdjebojaaGreat.ck Go.Proofs.YtcallecdjebojaaGreat.cp Go.Proofs.YtcallecdjebojaaGreat.tk
theorem r3_0 (a o : Int) : mlF 3 0 a o = cdR 3 0 a o := by kernel_rfl
theorem r3_1 (a o : Int) : mlF 3 1 a o = cdR 3 1 a o := by kernel_rfl
theorem r3_2 (a o : Int) : mlF 3 2 a o = cdR 3 2 a o := by kernel_rfl
theorem r3_3 (a o : Int) : mlF 3 3 a o = cdR 3 3 a o := by kernel_rfl
theorem r3_4 (a o : Int) : mlF 3 4 a o = cdR 3 4 a o := by kernel_rfl
theorem r3_5 (a o : Int) : mlF 3 5 a o = cdR 3 5 a o := by kernel_rfl
theorem r3_6 (a o : Int) : mlF 3 6 a o = cdR 3 6 a o := by kernel_rfl
theorem r3_7 (a o : Int) : mlF 3 7 a o = cdR 3 7 a o := by kernel_rfl
theorem r3_8 (a o : Int) : mlF 3 8 a o = cdR 3 8 a o := by kernel_rfl
theorem r3_9 (a o : Int) : mlF 3 9 a o = cdR 3 9 a o := by kernel_rfl
theorem r3_10 (a o : Int) : mlF 3 10 a o = cdR 3 10 a o := by kernel_rfl
theorem r3_11 (a o : Int) : mlF 3 11 a o = cdR 3 11 a o := by kernel_rfl
theorem r3_12 (a o : Int) : mlF 3 12 a o = cdR 3 12 a o := by kernel_rfl
theorem r3_13 (a o : Int) : mlF 3 13 a o = cdR 3 13 a o := by kernel_rfl
theorem r3_14 (a o : Int) : mlF 3 14 a o = cdR 3 14 a o := by kernel_rfl
theorem r3_15 (a o : Int) : mlF 3 15 a o = cdR 3 15 a o := by kernel_rfl
theorem r3_16 (a o : Int) : mlF 3 16 a o = cdR 3 16 a o := by kernel_rfl
theorem r3_17 (a o : Int) : mlF 3 17 a o = cdR 3 17 a o := by kernel_rfl
theorem r3_18 (a o : Int) : mlF 3 18 a o = cdR 3 18 a o := by kernel_rfl
theorem r3_19 (a o : Int) : mlF 3 19 a o = cdR 3 19 a o := by kernel_rfl
theorem r3_20 (a o : Int) : mlF 3 20 a o = cdR 3 20 a o := by kernel_rfl
theorem r3 (a o : Int) : ∀ n : Nat, n ≤ 20 → mlF 3 n a o = cdR 3 n a o
  | 0, _ => r3_0 a o
  | 1, _ => r3_1 a o
  | 2, _ => r3_2 a o
  | 3, _ => r3_3 a o
  | 4, _ => r3_4 a o
  | 5, _ => r3_5 a o
  | 6, _ => r3_6 a o
  | 7, _ => r3_7 a o
  | 8, _ => r3_8 a o
  | 9, _ => r3_9 a o
  | 10, _ => r3_10 a o
  | 11, _ => r3_11 a o
  | 12, _ => r3_12 a o
  | 13, _ => r3_13 a o
  | 14, _ => r3_14 a o
  | 15, _ => r3_15 a o
  | 16, _ => r3_16 a o
  | 17, _ => r3_17 a o
  | 18, _ => r3_18 a o
  | 19, _ => r3_19 a o
  | 20, _ => r3_20 a o
  | n + 21, h => absurd h (by omega)
end Go.Proofs.YtcallecdjebojaaGreat.cf
