/- Fields that are not too large. -/
import Derived.Test.YtgfidcdkjnnlgaaSz9
import Derived.Test.YtgfidcdkjnnlgaaRows
import Derived.Test.YtgfidcdkjnnlgaaLtkfacts
set_option linter.unusedSimpArgs false
set_option linter.unusedVariables false
namespace Go.Proofs.Ytgfidcdkjnnlgaa.tk
open Go Go.Ev Go.Sy Go.RowKit Go.Proofs.Ytgfidcdkjnnlgaa.gl
def fOn (f : Fl) : Nat := f.n.length + f.v.length + 1
def lgN : List Fl → Nat
  | [] => 0
  | f :: l => fOn f + lgN l
def lgB (l : List Fl) : Bool := decide (lgN l ≤ 2000)
def lgR (r : Row) : Bool := lgB (decF r.cells)
def ShortF (l : List Fl) : Prop := ∀ f ∈ l, f.n.length ≤ 1048576 ∧ f.v.length ≤ 1048576
def ShR (r : Row) : Prop := ShortF (decF r.cells)
end Go.Proofs.Ytgfidcdkjnnlgaa.tk
