/- Books of fields, requests, responses: entries. -/
import Derived.Test.YteodlmfnkjdhhaaSz9
import Derived.Test.YteodlmfnkjdhhaaRows
import Derived.Test.YteodlmfnkjdhhaaLbsx
import Derived.Test.YteodlmfnkjdhhaaLkpRq
set_option linter.unusedSimpArgs false
set_option linter.unusedVariables false
namespace Go.Proofs.Yteodlmfnkjdhhaa.tk
open Go Go.Ev Go.Sy Go.RowKit Go.Proofs.Yteodlmfnkjdhhaa.gl
def rmC (r : Row) (a b : ByteArray) : List Value := gC enF (decF r.cells ++ List.replicate 80 ⟨L a, L b⟩)
noncomputable def inB (r1 r2 : Row) (a b : ByteArray) : Bool := Go.Proofs.Yteodlmfnkjdhhaa.fb.sameSe (decF r1.cells) (decF r2.cells ++ List.replicate 80 ⟨L a, L b⟩)
noncomputable def rqF (m s a p : ByteArray) (k : Int) (m2 s2 a2 p2 : ByteArray) (k2 : Int) (r0 r1 : Row) : Bool := rqE ⟨m, s, a, p, k⟩ ⟨m2, s2, a2, p2, k2⟩ r0 r1
noncomputable def eRoom : EntM := entC 14 fun a r => match a, r with
  | [.slice (some ⟨0, 0, none⟩) n 2, .agg ⟨[.string a, .string b]⟩], [r0] => some (IsF r0 n ∧ n ≤ 16777000, .slice (some ⟨1, 0, none⟩) (n + 80) 2, [⟨rmC r0 a b, false, .cells true⟩])
  | _, _ => none
noncomputable def eInt : EntM := entC 21 fun a r => match a, r with
  | [.slice (some ⟨0, 0, none⟩) n 2, .slice (some ⟨1, 0, none⟩) m 2, .agg ⟨[.string a, .string b]⟩], [r0, r1] => some (IsF r0 n ∧ IsF r1 m ∧ n ≤ maxLen ∧ m ≤ 16777000, .bool (inB r0 r1 a b), [])
  | _, _ => none
noncomputable def eSaF : EntM := entC 26 fun a r => match a, r with
  | [.slice (some ⟨0, 0, none⟩) n 2, .slice (some ⟨1, 0, none⟩) m 2], [r0, r1] => some (IsF r0 n ∧ IsF r1 m ∧ n ≤ maxLen, .bool (saB r0 r1), [])
  | _, _ => none
noncomputable def eRqE : EntM := entC 12 fun a r => match a, r with
  | [.agg ⟨[.string m, .string s, .string a, .string p, .slice (some ⟨0, 0, none⟩) n 2, .int .i64 k]⟩, .agg ⟨[.string m2, .string s2, .string a2, .string p2, .slice (some ⟨1, 0, none⟩) n2 2, .int .i64 k2]⟩], [r0, r1] => some (IsF r0 n ∧ IsF r1 n2 ∧ n ≤ maxLen, .bool (rqF m s a p k m2 s2 a2 p2 k2 r0 r1), [])
  | _, _ => none
noncomputable def eRsE : EntM := entC 18 fun a r => match a, r with
  | [.agg ⟨[.int .i64 s, .slice (some ⟨0, 0, none⟩) n 2, .int .i64 k]⟩, .agg ⟨[.int .i64 t, .slice (some ⟨1, 0, none⟩) n2 2, .int .i64 k2]⟩], [r0, r1] => some (IsF r0 n ∧ IsF r1 n2 ∧ n ≤ maxLen, .bool (rsE s t k k2 r0 r1), [])
  | _, _ => none
theorem eRoom_ok : EntOk Try.prog eRoom := entC_ok (by
  intro a rows p v news h hp
  split at h <;> simp only [Option.some.injEq, Prod.mk.injEq, reduceCtorEq] at h
  obtain ⟨rfl, rfl, rfl⟩ := h
  obtain ⟨⟨l, rfl, rfl⟩, h1⟩ := hp
  simp only [rmC, dF]
  exact Go.Proofs.Yteodlmfnkjdhhaa.fb.roomy_con l ⟨L _, L _⟩ (by omega))
theorem eInt_ok : EntOk Try.prog eInt := entC_ok (by
  intro a rows p v news h hp
  split at h <;> simp only [Option.some.injEq, Prod.mk.injEq, reduceCtorEq] at h
  obtain ⟨rfl, rfl, rfl⟩ := h
  obtain ⟨⟨l, rfl, rfl⟩, ⟨l2, rfl, rfl⟩, h1, h2⟩ := hp
  simp only [inB, dF, List.append_nil]
  exact Go.Proofs.Yteodlmfnkjdhhaa.fb.int_con l l2 ⟨L _, L _⟩ h1 (by omega))
theorem eSaF_ok : EntOk Try.prog eSaF := entC_ok (by
  intro a rows p v news h hp
  split at h <;> simp only [Option.some.injEq, Prod.mk.injEq, reduceCtorEq] at h
  obtain ⟨rfl, rfl, rfl⟩ := h
  obtain ⟨⟨l, rfl, rfl⟩, ⟨l2, rfl, rfl⟩, h1⟩ := hp
  simp only [saB, dF, List.append_nil]
  exact Go.Proofs.Yteodlmfnkjdhhaa.fb.same_con l l2 h1)
theorem eRqE_ok : EntOk Try.prog eRqE := entC_ok (by
  intro a rows p v news h hp
  split at h <;> simp only [Option.some.injEq, Prod.mk.injEq, reduceCtorEq] at h
  obtain ⟨rfl, rfl, rfl⟩ := h
  obtain ⟨⟨l, rfl, rfl⟩, ⟨l2, rfl, rfl⟩, h1⟩ := hp
  simp only [List.append_nil]
  exact rqE_con ⟨_, _, _, _, _⟩ ⟨_, _, _, _, _⟩ l l2 h1)
theorem eRsE_ok : EntOk Try.prog eRsE := entC_ok (by
  intro a rows p v news h hp
  split at h <;> simp only [Option.some.injEq, Prod.mk.injEq, reduceCtorEq] at h
  obtain ⟨rfl, rfl, rfl⟩ := h
  obtain ⟨⟨l, rfl, rfl⟩, ⟨l2, rfl, rfl⟩, h1⟩ := hp
  simp only [List.append_nil]
  exact rsE_con _ _ _ _ l l2 h1)
theorem n_rmC (l : List Fl) (b : Bool) (o : Ob) (x y : ByteArray) : rmC ⟨gC enF l, b, o⟩ x y = gC enF (l ++ List.replicate 80 ⟨L x, L y⟩) := by unfold rmC; simp only; rw [decF_gC]
theorem n_in (l m : List Fl) (b c : Bool) (o p : Ob) (x y : ByteArray) : inB ⟨gC enF l, b, o⟩ ⟨gC enF m, c, p⟩ x y = Go.Proofs.Yteodlmfnkjdhhaa.fb.sameSe l (m ++ List.replicate 80 ⟨L x, L y⟩) := by unfold inB; simp only; rw [decF_gC, decF_gC]
theorem sameSe_self (l : List Fl) : Go.Proofs.Yteodlmfnkjdhhaa.fb.sameSe l l = true := Go.Proofs.Yteodlmfnkjdhhaa.fb.sameSe_yes rfl
end Go.Proofs.Yteodlmfnkjdhhaa.tk
