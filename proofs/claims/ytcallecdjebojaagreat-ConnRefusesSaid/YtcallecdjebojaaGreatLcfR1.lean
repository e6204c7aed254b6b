/- Runs of ConnRefuses, 1 streams allowed. -/
import Derived.Test.YtcallecdjebojaaGreatSz9
import Derived.Test.YtcallecdjebojaaGreatRows
import Derived.Test.YtcallecdjebojaaGreatLcfB
set_option maxRecDepth 20000
set_option linter.unusedSimpArgs false
set_option linter.unusedVariables false
namespace Go.Proofs.YtcallecdjebojaaGreat.cf
open Go Go.Ev Go.Sy Go.RowKit Go.Proofs.YtcallecdjebojaaGreat.ck Go.Proofs.YtcallecdjebojaaGreat.cp Go.Proofs.YtcallecdjebojaaGreat.tk
theorem r1_0 (a o : Int) : mlF 1 0 a o = cdR 1 0 a o := by kernel_rfl
theorem r1_1 (a o : Int) : mlF 1 1 a o = cdR 1 1 a o := by kernel_rfl
theorem r1_2 (a o : Int) : mlF 1 2 a o = cdR 1 2 a o := by kernel_rfl
theorem r1_3 (a o : Int) : mlF 1 3 a o = cdR 1 3 a o := by kernel_rfl
theorem r1_4 (a o : Int) : mlF 1 4 a o = cdR 1 4 a o := by kernel_rfl
theorem r1_5 (a o : Int) : mlF 1 5 a o = cdR 1 5 a o := by kernel_rfl
theorem r1_6 (a o : Int) : mlF 1 6 a o = cdR 1 6 a o := by kernel_rfl
theorem r1_7 (a o : Int) : mlF 1 7 a o = cdR 1 7 a o := by kernel_rfl
theorem r1_8 (a o : Int) : mlF 1 8 a o = cdR 1 8 a o := by kernel_rfl
theorem r1_9 (a o : Int) : mlF 1 9 a o = cdR 1 9 a o := by kernel_rfl
theorem r1_10 (a o : Int) : mlF 1 10 a o = cdR 1 10 a o := by kernel_rfl
theorem r1_11 (a o : Int) : mlF 1 11 a o = cdR 1 11 a o := by kernel_rfl
theorem r1_12 (a o : Int) : mlF 1 12 a o = cdR 1 12 a o := by kernel_rfl
theorem r1_13 (a o : Int) : mlF 1 13 a o = cdR 1 13 a o := by kernel_rfl
theorem r1_14 (a o : Int) : mlF 1 14 a o = cdR 1 14 a o := by kernel_rfl
theorem r1_15 (a o : Int) : mlF 1 15 a o = cdR 1 15 a o := by kernel_rfl
theorem r1_16 (a o : Int) : mlF 1 16 a o = cdR 1 16 a o := by kernel_rfl
theorem r1_17 (a o : Int) : mlF 1 17 a o = cdR 1 17 a o := by kernel_rfl
theorem r1_18 (a o : Int) : mlF 1 18 a o = cdR 1 18 a o := by kernel_rfl
theorem r1_19 (a o : Int) : mlF 1 19 a o = cdR 1 19 a o := by kernel_rfl
theorem r1_20 (a o : Int) : mlF 1 20 a o = cdR 1 20 a o := by kernel_rfl
theorem r1 (a o : Int) : ∀ n : Nat, n ≤ 20 → mlF 1 n a o = cdR 1 n a o
  | 0, _ => r1_0 a o
  | 1, _ => r1_1 a o
  | 2, _ => r1_2 a o
  | 3, _ => r1_3 a o
  | 4, _ => r1_4 a o
  | 5, _ => r1_5 a o
  | 6, _ => r1_6 a o
  | 7, _ => r1_7 a o
  | 8, _ => r1_8 a o
  | 9, _ => r1_9 a o
  | 10, _ => r1_10 a o
  | 11, _ => r1_11 a o
  | 12, _ => r1_12 a o
  | 13, _ => r1_13 a o
  | 14, _ => r1_14 a o
  | 15, _ => r1_15 a o
  | 16, _ => r1_16 a o
  | 17, _ => r1_17 a o
  | 18, _ => r1_18 a o
  | 19, _ => r1_19 a o
  | 20, _ => r1_20 a o
  | n + 21, h => absurd h (by omega)
end Go.Proofs.YtcallecdjebojaaGreat.cf
