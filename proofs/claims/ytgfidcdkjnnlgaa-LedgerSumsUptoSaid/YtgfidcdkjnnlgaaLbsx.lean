/- Small facts. -/
import Derived.Test.YtgfidcdkjnnlgaaSz9
import Derived.Test.YtgfidcdkjnnlgaaRows
import Derived.Test.YtgfidcdkjnnlgaaLtok
set_option linter.unusedSimpArgs false
set_option linter.unusedVariables false
namespace Go.Proofs.Ytgfidcdkjnnlgaa.tk
open Go Go.Ev Go.Sy Go.RowKit Go.Proofs.Ytgfidcdkjnnlgaa.gl
theorem L_bse (l : List UInt8) : L (bs l) = l := Eq.trans rfl rfl
theorem dF (l : List Fl) : decF (gRo enF l).cells = l := decF_gC l
theorem isF_eq (l : List Fl) : IsF ⟨gC enF l, true, .cells true⟩ l.length = True := eq_true (isF_mk _ _ rfl)
end Go.Proofs.Ytgfidcdkjnnlgaa.tk
