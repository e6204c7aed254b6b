/- Small facts. -/
import Derived.Test.YtgfidcdkjnnlgaaSz9
import Derived.Test.YtgfidcdkjnnlgaaRows
import Derived.Test.YtgfidcdkjnnlgaaLtok
set_option linter.unusedSimpArgs false
set_option linter.unusedVariables false
namespace Go.Proofs.Ytgfidcdkjnnlgaa.tk
open Go Go.Ev Go.Sy Go.RowKit Go.Proofs.Ytgfidcdkjnnlgaa.gl
theorem L_bse (l : List UInt8) : L (bs l) = l := Eq.trans rfl rfl
theorem dF (l : List Fl) : decF (gRo enF l).cells = l := decF_gC l
theorem isF_eq (l : List Fl) : IsF ⟨gC enF l, true, .cells true⟩ l.length = True := eq_true (isF_mk _ _ rfl)
theorem gPl (l : List Fl) (n : Nat) : Plain (List.take n (gC enF l)) = True := eq_true (fun v hv => fPl l v (List.mem_of_mem_take hv))
theorem strEq_me (s : ByteArray) : strEq s s = true := by
  have := strEq_bs (L s) (L s)
  rw [bsL] at this; rw [this]; simp
theorem br_ff0 (X Y : Prop) : br false X Y = Y := rfl
theorem br_tt0 (X Y : Prop) : br true X Y = X := rfl
theorem tkF (a b : List Fl) : List.take (a.length * 2) (gC enF (a ++ b)) = gC enF a := by rw [← gC_app, ← fLen a, List.take_left]
theorem tkN (l : List Fl) (i : Nat) : List.take (i * 2) (gC enF l) = gC enF (l.take i) := gC_take enF_k l i
theorem dpN (l : List Fl) (i : Nat) : List.drop (i * 2) (gC enF l) = gC enF (l.drop i) := gC_drop enF_k l i
theorem tkD (l : List Fl) (i : Nat) : List.take ((l.length - i) * 2) (gC enF (l.drop i)) = gC enF (l.drop i) := List.take_of_length_le (by rw [fLen, List.length_drop]; omega)
theorem oneN (l : List Fl) : allOne (gC enF l) = true := fOne l
end Go.Proofs.Ytgfidcdkjnnlgaa.tk
