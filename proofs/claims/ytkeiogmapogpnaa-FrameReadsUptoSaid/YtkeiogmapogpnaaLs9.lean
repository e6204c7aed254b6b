/- A frame's size. -/
import Derived.Test.YtkeiogmapogpnaaSz9
import Derived.Test.YtkeiogmapogpnaaRows
set_option linter.unusedSimpArgs false
set_option linter.unusedVariables false
namespace Go.Proofs.Ytkeiogmapogpnaa.s9
open Go Go.Ev Go.Sy Go.RowKit
theorem mixed : Try.prog.follows .mixedOrders = true := by kernel_rfl
noncomputable abbrev E0 : Env := envN Try.prog
def frV (t f s : Int) (r n : Nat) : Value := .agg ⟨[.int .i64 t, .int .i64 f, .int .i64 s, slc r n]⟩
end Go.Proofs.Ytkeiogmapogpnaa.s9
