/- Lists of structs as cells: lemmas for any encoding of a fixed width. -/
import Derived.Test.YtcallecdjebojaaGreatSz9
import Derived.Test.YtcallecdjebojaaGreatRows
set_option maxRecDepth 20000
set_option linter.unusedSimpArgs false
set_option linter.unusedVariables false
namespace Go.Proofs.YtcallecdjebojaaGreat.gl
open Go Go.Ev Go.Sy Go.RowKit
section
variable {α : Type} (en : α → List Value) (k : Nat)
def gC (l : List α) : List Value := l.flatMap en
def gOwn (l : List α) : Row := ⟨gC en l, false, .cells true⟩
end
section
variable {α : Type} {en : α → List Value} {k : Nat}
theorem gC_cons (a : α) (l : List α) : gC en (a :: l) = en a ++ gC en l := rfl
theorem gC_app (a b : List α) : gC en a ++ gC en b = gC en (a ++ b) := by simp [gC]
theorem gC_len (hk : ∀ a, (en a).length = k) (l : List α) : (gC en l).length = l.length * k := by
  induction l with
  | nil => simp [gC]
  | cons a l ih => rw [gC_cons, List.length_append, ih, hk, List.length_cons, Nat.succ_mul]; omega
theorem gC_plain (h : ∀ a, Plain (en a)) (l : List α) : Plain (gC en l) := by
  intro v hv
  obtain ⟨a, _, h'⟩ := List.mem_flatMap.1 hv
  exact h a v h'
end
end Go.Proofs.YtcallecdjebojaaGreat.gl
