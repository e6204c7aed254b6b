/- Facts on made clean, in seconds, held against each other. -/
import Derived.Test.YtideeogedleabaaSz9
import Derived.Test.YtideeogedleabaaRows
import Derived.Test.YtideeogedleabaaLflw
set_option maxRecDepth 20000
set_option linter.unusedSimpArgs false
set_option linter.unusedVariables false
namespace Go.Proofs.Ytideeogedleabaa.fl
open Go Go.Ev Go.Sy Ieee
theorem p2i' (k : Nat) : 0 < (p2 k : Int) := Int.natCast_pos.2 (p2_pos k)
theorem cl_nan {b : Nat} (h : nn b = true) : cl b = 0 := by unfold cl; rw [if_neg (fun c => by rw [h] at c; simp at c)]
theorem cl_one : cl one = one := by
  have hp := p2i' 1074
  unfold cl
  rw [nn1, fv1]
  generalize (p2 1074 : Int) = x at *
  rw [if_pos ⟨rfl, hp⟩, if_neg (by omega)]
theorem cl_zero : cl 0 = 0 := by
  unfold cl
  rw [fv0, if_neg (by omega)]
end Go.Proofs.Ytideeogedleabaa.fl
