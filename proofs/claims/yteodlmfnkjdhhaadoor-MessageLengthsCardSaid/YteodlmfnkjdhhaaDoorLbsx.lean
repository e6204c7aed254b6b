/- Small facts. -/
import Derived.Test.YteodlmfnkjdhhaaDoorSz9
import Derived.Test.YteodlmfnkjdhhaaDoorRows
import Derived.Test.YteodlmfnkjdhhaaDoorLtok
set_option maxRecDepth 20000
set_option linter.unusedSimpArgs false
set_option linter.unusedVariables false
namespace Go.Proofs.YteodlmfnkjdhhaaDoor.tk
open Go Go.Ev Go.Sy Go.RowKit Go.Proofs.YteodlmfnkjdhhaaDoor.gl
theorem L_bse (l : List UInt8) : L (bs l) = l := Eq.trans rfl rfl
theorem dF (l : List Fl) : decF (gRo enF l).cells = l := decF_gC l
theorem isF_eq (l : List Fl) : IsF ⟨gC enF l, true, .cells true⟩ l.length = True := eq_true (isF_mk _ _ rfl)
theorem strEq_me (s : ByteArray) : strEq s s = true := by
  have := strEq_bs (L s) (L s)
  rw [bsL] at this; rw [this]; simp
theorem oneN (l : List Fl) : allOne (gC enF l) = true := fOne l
end Go.Proofs.YteodlmfnkjdhhaaDoor.tk
