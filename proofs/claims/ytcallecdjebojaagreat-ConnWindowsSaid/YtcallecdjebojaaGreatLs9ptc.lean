/- A frame behind bytes: the program's. -/
import Derived.Test.YtcallecdjebojaaGreatSz9
import Derived.Test.YtcallecdjebojaaGreatRows
import Derived.Test.YtcallecdjebojaaGreatLs9c
set_option maxRecDepth 20000
set_option linter.unusedSimpArgs false
set_option linter.unusedVariables false
namespace Go.Proofs.YtcallecdjebojaaGreat.s9
open Go Go.Ev Go.Sy Go.RowKit
def by8 (n : Int) : UInt8 := UInt8.ofNat (IntKind.u8.wrap n).toNat
def headB (n : Nat) (t f s : Int) : List UInt8 := [by8 (ishr .i64 (n : Int) 16), by8 (ishr .i64 (n : Int) 8), by8 (n : Int), by8 t, by8 f, by8 (ishr .i64 s 24), by8 (ishr .i64 s 16), by8 (ishr .i64 s 8), by8 s]
theorem by8_v (n : Int) : Value.int .u8 (IntKind.u8.wrap n) = bVal (by8 n) := by
  have h := wru8 n
  have h1 : 0 ≤ IntKind.u8.wrap n ∧ IntKind.u8.wrap n < 256 := by omega
  unfold bVal by8
  rw [u8_toNat_ofNat (by omega), Int.toNat_of_nonneg h1.1]
theorem headC (n : Nat) (t f s : Int) : [bVal (by8 (ishr .i64 (n : Int) 16)), bVal (by8 (ishr .i64 (n : Int) 8)), bVal (by8 (n : Int)), bVal (by8 t), bVal (by8 f), bVal (by8 (ishr .i64 s 24)), bVal (by8 (ishr .i64 s 16)), bVal (by8 (ishr .i64 s 8)), bVal (by8 s)] = bCells (headB n t f s) := rfl
theorem head_len (n : Nat) (t f s : Int) : (headB n t f s).length = 9 := rfl
theorem brTt (X : Prop) : br true X False = X := rfl
end Go.Proofs.YtcallecdjebojaaGreat.s9
