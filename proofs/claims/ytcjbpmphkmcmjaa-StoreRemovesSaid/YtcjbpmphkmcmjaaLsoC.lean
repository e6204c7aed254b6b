/- The store: which node fits a request. -/
import Derived.Test.YtcjbpmphkmcmjaaSz9
import Derived.Test.YtcjbpmphkmcmjaaRows
import Derived.Test.YtcjbpmphkmcmjaaLsoB
set_option maxRecDepth 20000
set_option linter.unusedSimpArgs false
set_option linter.unusedVariables false
namespace Go.Proofs.Ytcjbpmphkmcmjaa.so
open Go Go.Ev Go.Sy Go.RowKit Go.Proofs.Ytcjbpmphkmcmjaa.gl Go.Proofs.Ytcjbpmphkmcmjaa.tk Go.Proofs.Ytcjbpmphkmcmjaa.cp Go.Proofs.Ytcjbpmphkmcmjaa.ic
def FV (l : List Fl) : Prop := FOk l ∧ BigV l
def FVR (r : Row) : Prop := FV (decF r.cells)
noncomputable def maR : Row → Row → Row → Bool := sealV matR
noncomputable def eMa : EntM := entC 34 fun a r => match a, r with
  | [.agg ⟨[.string m, .string s, .string a, .string p, .slice (some ⟨0, 0, none⟩) n0 2, .int .i64 k, .int .i64 st, .slice (some ⟨1, 0, none⟩) n1 2, .int .i64 k2, .string b, .int .i64 t1, .int .i64 t2]⟩, .agg ⟨[.string qm, .string qs, .string qa, .string qp, .slice (some ⟨2, 0, none⟩) n2 2, .int .i64 qk]⟩], [r0, r1, r2] => some (IsF r0 n0 ∧ IsF r1 n1 ∧ IsF r2 n2 ∧ FVR r0 ∧ FVR r1 ∧ FVR r2, .bool (maR r0 r1 r2), [])
  | _, _ => none
structure GFi where
  s : SS
  y : RqX
  q : List Fl
  l : List Int
  z : Nat
  o : Nat
  n : Nat
def IxOk (nd : List Nd) (l : List Int) : Prop := ∀ x ∈ l, 0 ≤ x ∧ x < (nd.length : Int)
theorem eMa_ok : EntOk Try.prog eMa := entC_ok (by
  intro a rows p v news h hp
  split at h <;> simp only [Option.some.injEq, Prod.mk.injEq, reduceCtorEq] at h
  obtain ⟨rfl, rfl, rfl⟩ := h
  rename_i m s a p n0 k st n1 k2 b t1 t2 qm qs qa qp n2 qk r0 r1 r2
  obtain ⟨⟨e, rfl, rfl⟩, ⟨r, rfl, rfl⟩, ⟨q, rfl, rfl⟩, h3, h4, h5⟩ := hp
  unfold FVR at h3 h4 h5
  rw [show decF (gRo enF e).cells = e from decF_gC e] at h3
  rw [show decF (gRo enF r).cells = r from decF_gC r] at h4
  rw [show decF (gRo enF q).cells = q from decF_gC q] at h5
  rw [List.append_nil]
  have hm : maxLen = 9223372036854775807 := by unfold maxLen; rfl
  have ev : maR (gRo enF e) (gRo enF r) (gRo enF q) = matL e r q := by unfold maR matR; rw [sealV_eq]; simp only [gRo, decF_gC]
  rw [ev]
  exact Mt_con ⟨m, s, a, p, k, st, k2, b, t1, t2⟩ ⟨qm, qs, qa, qp, qk⟩ e r q (by have := h3.1.1; omega) (by have := h4.1.1; omega) (by have := h5.1.1; omega) h3.2 h4.2 h5.2)
theorem z_ma (e r q : List Fl) (b1 b2 b3 : Bool) (o1 o2 o3 : Ob) : maR ⟨gC enF e, b1, o1⟩ ⟨gC enF r, b2, o2⟩ ⟨gC enF q, b3, o3⟩ = matL e r q := by unfold maR; rw [sealV_eq]; unfold matR; simp only [decF_gC]
theorem fvR (l : List Fl) (b : Bool) (o : Ob) : FVR ⟨gC enF l, b, o⟩ = FV l := by unfold FVR; simp only [decF_gC]
end Go.Proofs.Ytcjbpmphkmcmjaa.so
