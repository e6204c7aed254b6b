/- Fields that are not too large. -/
import Derived.Test.YtideeogedleabaaSz9
import Derived.Test.YtideeogedleabaaRows
import Derived.Test.YtideeogedleabaaLtkfacts
set_option maxRecDepth 20000
set_option linter.unusedSimpArgs false
set_option linter.unusedVariables false
namespace Go.Proofs.Ytideeogedleabaa.tk
open Go Go.Ev Go.Sy Go.RowKit Go.Proofs.Ytideeogedleabaa.gl
def fOn (f : Fl) : Nat := f.n.length + f.v.length + 1
def lgN : List Fl → Nat
  | [] => 0
  | f :: l => fOn f + lgN l
theorem allS_le (nm : List UInt8) : ∀ (l : List Fl) (acc : List UInt8) (k : Nat), (allS nm l acc k).length ≤ acc.length + 3 * lgN l
  | [], acc, k => by simp [allS]
  | f :: l, acc, k => by
    rw [allS, lgN]
    unfold fOn
    split
    · have := allS_le nm l (acc ++ (if k = 0 then [] else [44, 32]) ++ f.v) (k + 1)
      have h2 : (if k = 0 then ([] : List UInt8) else [44, 32]).length ≤ 2 := by split <;> simp
      simp only [List.length_append] at this; omega
    · have := allS_le nm l acc k; omega
theorem allL_le (l : List Fl) (nm : List UInt8) : (allL l nm).length ≤ 3 * lgN l := by
  have := allS_le nm l [] 0; unfold allL; simpa using this
end Go.Proofs.Ytideeogedleabaa.tk
