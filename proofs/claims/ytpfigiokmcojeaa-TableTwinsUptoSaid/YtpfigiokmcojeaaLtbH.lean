/- The dynamic table: a field's number. -/
import Derived.Test.YtpfigiokmcojeaaSz9
import Derived.Test.YtpfigiokmcojeaaRows
import Derived.Test.YtpfigiokmcojeaaLtbG
set_option linter.unusedSimpArgs false
set_option linter.unusedVariables false
namespace Go.Proofs.Ytpfigiokmcojeaa.tb
open Go Go.Ev Go.Sy Go.RowKit Go.Proofs.Ytpfigiokmcojeaa.gl Go.Proofs.Ytpfigiokmcojeaa.tk
open Classical in
structure GFn where
  l : List Fl
  j : List Fl
  s : Int
  m : Int
  f : Fl
theorem bq_bs (a b : List UInt8) : (bs a == bs b) = decide (a = b) := by
  have e : (bs a == bs b) = (a.toArray == b.toArray) := rfl
  rw [e]
  by_cases h : a = b
  · subst h; simp
  · have : a.toArray ≠ b.toArray := fun e => h (by simpa using e)
    simp [h]
theorem isTg_mk (l j : List Fl) (h : l.length ≤ 16777216) : IsTg ⟨gC enF (l ++ j), false, .cells true⟩ l.length := ⟨l, j, rfl, rfl, h⟩
end Go.Proofs.Ytpfigiokmcojeaa.tb
