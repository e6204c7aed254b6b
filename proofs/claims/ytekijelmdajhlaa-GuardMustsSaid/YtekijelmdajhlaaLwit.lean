/- A number that is put between two others. -/
import Derived.Test.YtekijelmdajhlaaSz9
import Derived.Test.YtekijelmdajhlaaRows
import Derived.Test.YtekijelmdajhlaaLtok
set_option linter.unusedSimpArgs false
set_option linter.unusedVariables false
namespace Go.Proofs.Ytekijelmdajhlaa.tk
open Go Go.Ev Go.Sy Go.RowKit Go.Proofs.Ytekijelmdajhlaa.gl
end Go.Proofs.Ytekijelmdajhlaa.tk
