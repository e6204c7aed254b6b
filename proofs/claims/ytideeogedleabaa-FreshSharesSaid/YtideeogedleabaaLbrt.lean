/- Conditions that hold, taken away. -/
import Derived.Test.YtideeogedleabaaSz9
import Derived.Test.YtideeogedleabaaRows
import Derived.Test.YtideeogedleabaaLk9
set_option maxRecDepth 20000
set_option linter.unusedSimpArgs false
set_option linter.unusedVariables false
namespace Go.Proofs.Ytideeogedleabaa.tk
open Go Go.Ev Go.Sy Go.RowKit Go.Proofs.Ytideeogedleabaa.gl
theorem bs_dd (l : List UInt8) : (bs l).data.toList = l := Eq.trans rfl rfl
theorem brT {P : Prop} {d : Decidable P} (h : P) (X : Prop) : br (@decide P d) X False = X := by rw [decide_eq_true h]; rfl
end Go.Proofs.Ytideeogedleabaa.tk
