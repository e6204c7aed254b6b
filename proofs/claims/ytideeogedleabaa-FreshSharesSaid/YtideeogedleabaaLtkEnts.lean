/- All, Split, Lower and their models: entries. -/
import Derived.Test.YtideeogedleabaaSz9
import Derived.Test.YtideeogedleabaaRows
import Derived.Test.YtideeogedleabaaLk9
import Derived.Test.YtideeogedleabaaLtkAll
import Derived.Test.YtideeogedleabaaLtkSplit
import Derived.Test.YtideeogedleabaaLtkLower
import Derived.Test.YtideeogedleabaaLrtAll
import Derived.Test.YtideeogedleabaaLrtSplit
import Derived.Test.YtideeogedleabaaLrtLower
set_option maxRecDepth 20000
set_option linter.unusedSimpArgs false
set_option linter.unusedVariables false
namespace Go.Proofs.Ytideeogedleabaa.tk
open Go Go.Ev Go.Sy Go.RowKit Go.Proofs.Ytideeogedleabaa.gl
noncomputable def eAl : EntM := entC 24 fun a r => match a, r with
  | [.slice (some ⟨0, 0, none⟩) n 2, .string s], [r0] => some (IsF r0 n ∧ n ≤ maxLen ∧ alB r0 s ≤ 16777216, .tuple #[.string (alV r0 s), .int .i64 (alN r0 s)], [])
  | _, _ => none
theorem eAl_ok : EntOk Try.prog eAl := entC_ok (by
  intro a rows p v news h hp
  split at h <;> simp only [Option.some.injEq, Prod.mk.injEq, reduceCtorEq] at h
  obtain ⟨rfl, rfl, rfl⟩ := h
  obtain ⟨⟨l, rfl, rfl⟩, h1, h2⟩ := hp
  simp only [alV, alN, alB, show ∀ l : List Fl, decF (gRo enF l).cells = l from fun l => decF_gC l, List.append_nil] at h2 ⊢
  exact Al_con l (L _) h1 h2)
theorem n_alV (l : List Fl) (b : Bool) (o : Ob) (s : List UInt8) : alV ⟨gC enF l, b, o⟩ (bs s) = bs (allL l s) := by unfold alV; simp only; rw [decF_gC, L_bs]
theorem n_alN (l : List Fl) (b : Bool) (o : Ob) (s : List UInt8) : alN ⟨gC enF l, b, o⟩ (bs s) = (allN s l : Nat) := by unfold alN; simp only; rw [decF_gC, L_bs]
theorem n_alB (l : List Fl) (b : Bool) (o : Ob) (s : List UInt8) : alB ⟨gC enF l, b, o⟩ (bs s) = (allL l s).length := by unfold alB; simp only; rw [decF_gC, L_bs]
end Go.Proofs.Ytideeogedleabaa.tk
