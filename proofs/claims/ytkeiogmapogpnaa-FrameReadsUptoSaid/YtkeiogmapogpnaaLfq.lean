/- Frames written and read: the mathematics. -/
import Derived.Test.YtkeiogmapogpnaaSz9
import Derived.Test.YtkeiogmapogpnaaRows
import Derived.Test.YtkeiogmapogpnaaLff
set_option linter.unusedSimpArgs false
set_option linter.unusedVariables false
namespace Go.Proofs.Ytkeiogmapogpnaa.fe
open Go Go.Ev Go.Sy Go.RowKit Go.Proofs.Ytkeiogmapogpnaa.s9 Go.Proofs.Ytkeiogmapogpnaa.fd Go.Proofs.Ytkeiogmapogpnaa.gl
theorem run_nil (m : Int) (n : Nat) : run m n [] = ([], 0, false) := by
  rw [run_step m (Nat.zero_le n), if_pos (by simp)]
end Go.Proofs.Ytkeiogmapogpnaa.fe
