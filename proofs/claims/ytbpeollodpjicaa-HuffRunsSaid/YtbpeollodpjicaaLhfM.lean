/- Bits, and bytes of bits. -/
import Derived.Test.YtbpeollodpjicaaSz9
import Derived.Test.YtbpeollodpjicaaRows
import Derived.Test.YtbpeollodpjicaaLhfO
set_option maxRecDepth 20000
set_option linter.unusedSimpArgs false
set_option linter.unusedVariables false
namespace Go.Proofs.Ytbpeollodpjicaa.hf
open Go Go.Ev Go.Sy Go.RowKit Go.Proofs.Ytbpeollodpjicaa.gl Go.Proofs.Ytbpeollodpjicaa.tk
def val (b : List Bool) : Nat := b.foldl (fun n c => n * 2 + c.toNat) 0
def rest (b : List Bool) : List Bool := if h : 8 ≤ b.length then rest (b.drop 8) else b
termination_by b.length
decreasing_by simp; omega
def codeP (s : Nat) : Nat := fstN (hLen s) + (posN s - stN (hLen s))
theorem code_p (s : Nat) (h : s < 257) : codeN s = codeP s := by have := pos_eq s h; unfold codeN codeP; omega
end Go.Proofs.Ytbpeollodpjicaa.hf
