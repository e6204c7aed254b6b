/- Lists of truths. -/
import Derived.Test.YtcallecdjebojaaGreatSz9
import Derived.Test.YtcallecdjebojaaGreatRows
import Derived.Test.YtcallecdjebojaaGreatLtok
set_option maxRecDepth 20000
set_option linter.unusedSimpArgs false
set_option linter.unusedVariables false
namespace Go.Proofs.YtcallecdjebojaaGreat.tk
open Go Go.Ev Go.Sy Go.RowKit Go.Proofs.YtcallecdjebojaaGreat.gl
def enB (b : Bool) : List Value := [.bool b]
theorem elems_b {n : Nat} {cells : List Value} (h : Elems [.b] n cells) : ∃ l : List Bool, l.length = n ∧ cells = gC enB l := by
  obtain ⟨l, h1, h2, _⟩ := h.data (α := Bool) enB (fun _ => True) (fun c hc => by
    match c, hc with
    | [.bool b], _ => exact ⟨b, rfl, trivial⟩)
  exact ⟨l, h1, h2⟩
theorem enB_k (a : Bool) : (enB a).length = 1 := rfl
theorem enB_p (a : Bool) : Plain (enB a) := by intro v hv; simp [enB] at hv; subst hv; rfl
theorem bPl (l : List Bool) : Plain (gC enB l) := gC_plain enB_p l
theorem bGet (l : List Bool) (i : Nat) (h : i < l.length) : (gC enB l)[i]? = some (.bool l[i]) ∧ cellB (gC enB l) i = l[i] := by
  have h0 := gC_get0 enB_k l i h (by omega)
  rw [Nat.mul_one] at h0
  have h1 : (gC enB l)[i]? = some (.bool l[i]) := by rw [h0]; rfl
  exact ⟨h1, cellB_of h1⟩
end Go.Proofs.YtcallecdjebojaaGreat.tk
