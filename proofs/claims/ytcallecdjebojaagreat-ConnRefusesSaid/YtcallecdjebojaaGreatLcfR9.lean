/- Runs of ConnRefuses, 9 streams allowed. -/
import Derived.Test.YtcallecdjebojaaGreatSz9
import Derived.Test.YtcallecdjebojaaGreatRows
import Derived.Test.YtcallecdjebojaaGreatLcfB
set_option maxRecDepth 20000
set_option linter.unusedSimpArgs false
set_option linter.unusedVariables false
namespace Go.Proofs.YtcallecdjebojaaGreat.cf
open Go Go.Ev Go.Sy Go.RowKit Go.Proofs.YtcallecdjebojaaGreat.ck Go.Proofs.YtcallecdjebojaaGreat.cp Go.Proofs.YtcallecdjebojaaGreat.tk
theorem r9_0 (a o : Int) : mlF 9 0 a o = cdR 9 0 a o := by kernel_rfl
theorem r9_1 (a o : Int) : mlF 9 1 a o = cdR 9 1 a o := by kernel_rfl
theorem r9_2 (a o : Int) : mlF 9 2 a o = cdR 9 2 a o := by kernel_rfl
theorem r9_3 (a o : Int) : mlF 9 3 a o = cdR 9 3 a o := by kernel_rfl
theorem r9_4 (a o : Int) : mlF 9 4 a o = cdR 9 4 a o := by kernel_rfl
theorem r9_5 (a o : Int) : mlF 9 5 a o = cdR 9 5 a o := by kernel_rfl
theorem r9_6 (a o : Int) : mlF 9 6 a o = cdR 9 6 a o := by kernel_rfl
theorem r9_7 (a o : Int) : mlF 9 7 a o = cdR 9 7 a o := by kernel_rfl
theorem r9_8 (a o : Int) : mlF 9 8 a o = cdR 9 8 a o := by kernel_rfl
theorem r9_9 (a o : Int) : mlF 9 9 a o = cdR 9 9 a o := by kernel_rfl
theorem r9_10 (a o : Int) : mlF 9 10 a o = cdR 9 10 a o := by kernel_rfl
theorem r9_11 (a o : Int) : mlF 9 11 a o = cdR 9 11 a o := by kernel_rfl
theorem r9_12 (a o : Int) : mlF 9 12 a o = cdR 9 12 a o := by kernel_rfl
theorem r9_13 (a o : Int) : mlF 9 13 a o = cdR 9 13 a o := by kernel_rfl
theorem r9_14 (a o : Int) : mlF 9 14 a o = cdR 9 14 a o := by kernel_rfl
theorem r9_15 (a o : Int) : mlF 9 15 a o = cdR 9 15 a o := by kernel_rfl
theorem r9_16 (a o : Int) : mlF 9 16 a o = cdR 9 16 a o := by kernel_rfl
theorem r9_17 (a o : Int) : mlF 9 17 a o = cdR 9 17 a o := by kernel_rfl
theorem r9_18 (a o : Int) : mlF 9 18 a o = cdR 9 18 a o := by kernel_rfl
theorem r9_19 (a o : Int) : mlF 9 19 a o = cdR 9 19 a o := by kernel_rfl
theorem r9_20 (a o : Int) : mlF 9 20 a o = cdR 9 20 a o := by kernel_rfl
theorem r9 (a o : Int) : ∀ n : Nat, n ≤ 20 → mlF 9 n a o = cdR 9 n a o
  | 0, _ => r9_0 a o
  | 1, _ => r9_1 a o
  | 2, _ => r9_2 a o
  | 3, _ => r9_3 a o
  | 4, _ => r9_4 a o
  | 5, _ => r9_5 a o
  | 6, _ => r9_6 a o
  | 7, _ => r9_7 a o
  | 8, _ => r9_8 a o
  | 9, _ => r9_9 a o
  | 10, _ => r9_10 a o
  | 11, _ => r9_11 a o
  | 12, _ => r9_12 a o
  | 13, _ => r9_13 a o
  | 14, _ => r9_14 a o
  | 15, _ => r9_15 a o
  | 16, _ => r9_16 a o
  | 17, _ => r9_17 a o
  | 18, _ => r9_18 a o
  | 19, _ => r9_19 a o
  | 20, _ => r9_20 a o
  | n + 21, h => absurd h (by omega)
end Go.Proofs.YtcallecdjebojaaGreat.cf
