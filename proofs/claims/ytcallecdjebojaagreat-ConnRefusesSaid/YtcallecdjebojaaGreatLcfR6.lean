/- Runs of ConnRefuses, 6 streams allowed. -/
import Derived.Test.YtcallecdjebojaaGreatSz9
import Derived.Test.YtcallecdjebojaaGreatRows
import Derived.Test.YtcallecdjebojaaGreatLcfB
set_option maxRecDepth 20000
set_option linter.unusedSimpArgs false
set_option linter.unusedVariables false
namespace Go.Proofs.YtcallecdjebojaaGreat.cf
open Go Go.Ev Go.Sy Go.RowKit Go.Proofs.YtcallecdjebojaaGreat.ck Go.Proofs.YtcallecdjebojaaGreat.cp Go.Proofs.YtcallecdjebojaaGreat.tk
theorem r6_0 (a o : Int) : mlF 6 0 a o = cdR 6 0 a o := by kernel_rfl
theorem r6_1 (a o : Int) : mlF 6 1 a o = cdR 6 1 a o := by kernel_rfl
theorem r6_2 (a o : Int) : mlF 6 2 a o = cdR 6 2 a o := by kernel_rfl
theorem r6_3 (a o : Int) : mlF 6 3 a o = cdR 6 3 a o := by kernel_rfl
theorem r6_4 (a o : Int) : mlF 6 4 a o = cdR 6 4 a o := by kernel_rfl
theorem r6_5 (a o : Int) : mlF 6 5 a o = cdR 6 5 a o := by kernel_rfl
theorem r6_6 (a o : Int) : mlF 6 6 a o = cdR 6 6 a o := by kernel_rfl
theorem r6_7 (a o : Int) : mlF 6 7 a o = cdR 6 7 a o := by kernel_rfl
theorem r6_8 (a o : Int) : mlF 6 8 a o = cdR 6 8 a o := by kernel_rfl
theorem r6_9 (a o : Int) : mlF 6 9 a o = cdR 6 9 a o := by kernel_rfl
theorem r6_10 (a o : Int) : mlF 6 10 a o = cdR 6 10 a o := by kernel_rfl
theorem r6_11 (a o : Int) : mlF 6 11 a o = cdR 6 11 a o := by kernel_rfl
theorem r6_12 (a o : Int) : mlF 6 12 a o = cdR 6 12 a o := by kernel_rfl
theorem r6_13 (a o : Int) : mlF 6 13 a o = cdR 6 13 a o := by kernel_rfl
theorem r6_14 (a o : Int) : mlF 6 14 a o = cdR 6 14 a o := by kernel_rfl
theorem r6_15 (a o : Int) : mlF 6 15 a o = cdR 6 15 a o := by kernel_rfl
theorem r6_16 (a o : Int) : mlF 6 16 a o = cdR 6 16 a o := by kernel_rfl
theorem r6_17 (a o : Int) : mlF 6 17 a o = cdR 6 17 a o := by kernel_rfl
theorem r6_18 (a o : Int) : mlF 6 18 a o = cdR 6 18 a o := by kernel_rfl
theorem r6_19 (a o : Int) : mlF 6 19 a o = cdR 6 19 a o := by kernel_rfl
theorem r6_20 (a o : Int) : mlF 6 20 a o = cdR 6 20 a o := by kernel_rfl
theorem r6 (a o : Int) : ∀ n : Nat, n ≤ 20 → mlF 6 n a o = cdR 6 n a o
  | 0, _ => r6_0 a o
  | 1, _ => r6_1 a o
  | 2, _ => r6_2 a o
  | 3, _ => r6_3 a o
  | 4, _ => r6_4 a o
  | 5, _ => r6_5 a o
  | 6, _ => r6_6 a o
  | 7, _ => r6_7 a o
  | 8, _ => r6_8 a o
  | 9, _ => r6_9 a o
  | 10, _ => r6_10 a o
  | 11, _ => r6_11 a o
  | 12, _ => r6_12 a o
  | 13, _ => r6_13 a o
  | 14, _ => r6_14 a o
  | 15, _ => r6_15 a o
  | 16, _ => r6_16 a o
  | 17, _ => r6_17 a o
  | 18, _ => r6_18 a o
  | 19, _ => r6_19 a o
  | 20, _ => r6_20 a o
  | n + 21, h => absurd h (by omega)
end Go.Proofs.YtcallecdjebojaaGreat.cf
