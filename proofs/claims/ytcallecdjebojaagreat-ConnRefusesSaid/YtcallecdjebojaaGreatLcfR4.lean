/- Runs of ConnRefuses, 4 streams allowed. -/
import Derived.Test.YtcallecdjebojaaGreatSz9
import Derived.Test.YtcallecdjebojaaGreatRows
import Derived.Test.YtcallecdjebojaaGreatLcfB
set_option maxRecDepth 20000
set_option linter.unusedSimpArgs false
set_option linter.unusedVariables false
namespace Go.Proofs.YtcallecdjebojaaGreat.cf
open Go Go.Ev Go.Sy Go.RowKit Go.Proofs.YtcallecdjebojaaGreat.ck Go.Proofs.YtcallecdjebojaaGreat.cp Go.Proofs.YtcallecdjebojaaGreat.tk
theorem r4_0 (a o : Int) : mlF 4 0 a o = cdR 4 0 a o := by kernel_rfl
theorem r4_1 (a o : Int) : mlF 4 1 a o = cdR 4 1 a o := by kernel_rfl
theorem r4_2 (a o : Int) : mlF 4 2 a o = cdR 4 2 a o := by kernel_rfl
theorem r4_3 (a o : Int) : mlF 4 3 a o = cdR 4 3 a o := by kernel_rfl
theorem r4_4 (a o : Int) : mlF 4 4 a o = cdR 4 4 a o := by kernel_rfl
theorem r4_5 (a o : Int) : mlF 4 5 a o = cdR 4 5 a o := by kernel_rfl
theorem r4_6 (a o : Int) : mlF 4 6 a o = cdR 4 6 a o := by kernel_rfl
theorem r4_7 (a o : Int) : mlF 4 7 a o = cdR 4 7 a o := by kernel_rfl
theorem r4_8 (a o : Int) : mlF 4 8 a o = cdR 4 8 a o := by kernel_rfl
theorem r4_9 (a o : Int) : mlF 4 9 a o = cdR 4 9 a o := by kernel_rfl
theorem r4_10 (a o : Int) : mlF 4 10 a o = cdR 4 10 a o := by kernel_rfl
theorem r4_11 (a o : Int) : mlF 4 11 a o = cdR 4 11 a o := by kernel_rfl
theorem r4_12 (a o : Int) : mlF 4 12 a o = cdR 4 12 a o := by kernel_rfl
theorem r4_13 (a o : Int) : mlF 4 13 a o = cdR 4 13 a o := by kernel_rfl
theorem r4_14 (a o : Int) : mlF 4 14 a o = cdR 4 14 a o := by kernel_rfl
theorem r4_15 (a o : Int) : mlF 4 15 a o = cdR 4 15 a o := by kernel_rfl
theorem r4_16 (a o : Int) : mlF 4 16 a o = cdR 4 16 a o := by kernel_rfl
theorem r4_17 (a o : Int) : mlF 4 17 a o = cdR 4 17 a o := by kernel_rfl
theorem r4_18 (a o : Int) : mlF 4 18 a o = cdR 4 18 a o := by kernel_rfl
theorem r4_19 (a o : Int) : mlF 4 19 a o = cdR 4 19 a o := by kernel_rfl
theorem r4_20 (a o : Int) : mlF 4 20 a o = cdR 4 20 a o := by kernel_rfl
theorem r4 (a o : Int) : ∀ n : Nat, n ≤ 20 → mlF 4 n a o = cdR 4 n a o
  | 0, _ => r4_0 a o
  | 1, _ => r4_1 a o
  | 2, _ => r4_2 a o
  | 3, _ => r4_3 a o
  | 4, _ => r4_4 a o
  | 5, _ => r4_5 a o
  | 6, _ => r4_6 a o
  | 7, _ => r4_7 a o
  | 8, _ => r4_8 a o
  | 9, _ => r4_9 a o
  | 10, _ => r4_10 a o
  | 11, _ => r4_11 a o
  | 12, _ => r4_12 a o
  | 13, _ => r4_13 a o
  | 14, _ => r4_14 a o
  | 15, _ => r4_15 a o
  | 16, _ => r4_16 a o
  | 17, _ => r4_17 a o
  | 18, _ => r4_18 a o
  | 19, _ => r4_19 a o
  | 20, _ => r4_20 a o
  | n + 21, h => absurd h (by omega)
end Go.Proofs.YtcallecdjebojaaGreat.cf
