/- Contracts of merging, as entries of tables. -/
import Derived.Test.YthkidlkcjohppaaSz9
import Derived.Test.YthkidlkcjohppaaRows
import Derived.Test.YthkidlkcjohppaaLmgRen
import Derived.Test.YthkidlkcjohppaaLrtAsk
import Derived.Test.YthkidlkcjohppaaLrtUnch
import Derived.Test.YthkidlkcjohppaaLrtMer
import Derived.Test.YthkidlkcjohppaaLkpEq
import Derived.Test.YthkidlkcjohppaaLmgClr
import Derived.Test.YthkidlkcjohppaaLlgtK
set_option linter.unusedSimpArgs false
set_option linter.unusedVariables false
namespace Go.Proofs.Ythkidlkcjohppaa.tk
open Go Go.Ev Go.Sy Go.RowKit Go.Proofs.Ythkidlkcjohppaa.gl
def asN (r1 r2 : Row) : Nat := (askL (decF r1.cells) (decF r2.cells)).length
def asC (r1 r2 : Row) : List Value := gC enF (askL (decF r1.cells) (decF r2.cells))
def asB (r1 : Row) : Bool := askB (decF r1.cells)
def rnN (r1 r2 : Row) : Nat := (renL (decF r1.cells) (decF r2.cells)).length
def rnC (r1 r2 : Row) : List Value := gC enF (renL (decF r1.cells) (decF r2.cells))
def meN (r1 r2 : Row) : Nat := (merL (decF r1.cells) (decF r2.cells)).length
def meC (r1 r2 : Row) : List Value := gC enF (merL (decF r1.cells) (decF r2.cells))
def dC (r : Row) : List Value := gC enF (decF r.cells)
def dN (r : Row) : Nat := (decF r.cells).length
def rmC (r : Row) (a b : ByteArray) : List Value := gC enF (decF r.cells ++ List.replicate 80 ⟨L a, L b⟩)
noncomputable def inB (r1 r2 : Row) (a b : ByteArray) : Bool := Go.Proofs.Ythkidlkcjohppaa.fb.sameSe (decF r1.cells) (decF r2.cells ++ List.replicate 80 ⟨L a, L b⟩)
def eAs : EntM := entC 9 fun a r => match a, r with
  | [.agg ⟨[.string em, .string es, .string ea, .string ep, .slice (some ⟨0, 0, none⟩) n0 2, .int .i64 ek, .int .i64 st, .slice (some ⟨1, 0, none⟩) n1 2, .int .i64 k2, .string body, .int .i64 asked, .int .i64 came]⟩, .agg ⟨[.string qm, .string qs, .string qa, .string qp, .slice (some ⟨2, 0, none⟩) n2 2, .int .i64 qk]⟩], [r0, r1, r2] => some (IsF r0 n0 ∧ IsF r1 n1 ∧ IsF r2 n2 ∧ n0 ≤ maxLen ∧ n1 ≤ maxLen ∧ n2 ≤ 16777000 ∧ BigW1 r1, .tuple #[.agg ⟨[.string qm, .string qs, .string qa, .string qp, .slice (some ⟨3, 0, none⟩) (asN r1 r2) 2, .int .i64 qk]⟩, .bool (asB r1)], [⟨asC r1 r2, false, .cells true⟩])
  | _, _ => none
def eRk (fl : Bool) : EntM := entC 18 fun a r => match a, r with
  | [.agg ⟨[.string em, .string es, .string ea, .string ep, .slice (some ⟨0, 0, none⟩) n0 2, .int .i64 ek, .int .i64 st, .slice (some ⟨1, 0, none⟩) n1 2, .int .i64 k2, .string body, .int .i64 asked, .int .i64 came]⟩, .agg ⟨[.string qm, .string qs, .string qa, .string qp, .slice (some ⟨2, 0, none⟩) n2 2, .int .i64 qk]⟩], [r0, r1, r2] => (match fl with
    | true => some (asB r1 = true ∧ IsF r0 n0 ∧ IsF r1 n1 ∧ IsF r2 n2 ∧ n0 ≤ maxLen ∧ n1 ≤ maxLen ∧ n2 ≤ 16777000 ∧ BigW1 r1, .tuple #[.agg ⟨[.string qm, .string qs, .string qa, .string qp, .slice (some ⟨3, 0, none⟩) (asN r1 r2) 2, .int .i64 qk]⟩, .bool true], [⟨asC r1 r2, false, .cells true⟩])
    | false => some (asB r1 = false ∧ IsF r0 n0 ∧ IsF r1 n1 ∧ IsF r2 n2 ∧ n0 ≤ maxLen ∧ n1 ≤ maxLen ∧ n2 ≤ 16777000 ∧ BigW1 r1, .tuple #[.agg ⟨[.string qm, .string qs, .string qa, .string qp, .slice (some ⟨2, 0, none⟩) n2 2, .int .i64 qk]⟩, .bool false], []))
  | _, _ => none
def eRn : EntM := entC 12 fun a r => match a, r with
  | [.agg ⟨[.string em, .string es, .string ea, .string ep, .slice (some ⟨0, 0, none⟩) n0 2, .int .i64 ek, .int .i64 st, .slice (some ⟨1, 0, none⟩) n1 2, .int .i64 k2, .string body, .int .i64 asked, .int .i64 came]⟩, .agg ⟨[.int .i64 rs, .slice (some ⟨2, 0, none⟩) n2 2, .int .i64 rk]⟩, .int .i64 a2, .int .i64 c2], [r0, r1, r2] => some (IsF r0 n0 ∧ IsF r1 n1 ∧ IsF r2 n2 ∧ n0 ≤ 16777000 ∧ n1 + n2 ≤ 16777000 ∧ BigW1 r2, .agg ⟨[.string em, .string es, .string ea, .string ep, .slice (some ⟨3, 0, none⟩) (dN r0) 2, .int .i64 ek, .int .i64 st, .slice (some ⟨4, 0, none⟩) (rnN r1 r2) 2, .int .i64 k2, .string body, .int .i64 a2, .int .i64 c2]⟩, [⟨dC r0, false, .cells true⟩, ⟨rnC r1 r2, false, .cells true⟩])
  | _, _ => none
def eRe : EntM := entC 21 fun a r => match a, r with
  | [.agg ⟨[.string em, .string es, .string ea, .string ep, .slice (some ⟨0, 0, none⟩) n0 2, .int .i64 ek, .int .i64 st, .slice (some ⟨1, 0, none⟩) n1 2, .int .i64 k2, .string body, .int .i64 asked, .int .i64 came]⟩, .agg ⟨[.int .i64 rs, .slice (some ⟨2, 0, none⟩) n2 2, .int .i64 rk]⟩, .int .i64 a2, .int .i64 c2], [r0, r1, r2] => some (IsF r0 n0 ∧ IsF r1 n1 ∧ IsF r2 n2 ∧ n0 ≤ 16777000 ∧ n1 + n2 ≤ 16777000 ∧ BigW1 r2, .agg ⟨[.string em, .string es, .string ea, .string ep, .slice (some ⟨0, 0, none⟩) (dN r0) 2, .int .i64 ek, .int .i64 st, .slice (some ⟨3, 0, none⟩) (meN r1 r2) 2, .int .i64 k2, .string body, .int .i64 a2, .int .i64 c2]⟩, [⟨meC r1 r2, false, .cells true⟩])
  | _, _ => none
def eRu : EntM := entC 23 fun a r => match a, r with
  | [.agg ⟨[.string em, .string es, .string ea, .string ep, .slice (some ⟨0, 0, none⟩) n0 2, .int .i64 ek, .int .i64 st, .slice (some ⟨1, 0, none⟩) n1 2, .int .i64 k2, .string body, .int .i64 asked, .int .i64 came]⟩, .agg ⟨[.string qm, .string qs, .string qa, .string qp, .slice (some ⟨2, 0, none⟩) n2 2, .int .i64 qk]⟩], [r0, r1, r2] => some (IsF r0 n0 ∧ IsF r1 n1 ∧ IsF r2 n2 ∧ n0 ≤ maxLen ∧ n1 ≤ maxLen ∧ n2 ≤ maxLen ∧ BigW1 r1 ∧ BigW1 r2, .bool (samR r1 r2), [])
  | _, _ => none
def eSm : EntM := entC 14 fun a r => match a, r with
  | [.agg ⟨[.string em, .string es, .string ea, .string ep, .slice (some ⟨0, 0, none⟩) n0 2, .int .i64 ek, .int .i64 st, .slice (some ⟨1, 0, none⟩) n1 2, .int .i64 k2, .string body, .int .i64 asked, .int .i64 came]⟩, .agg ⟨[.string qm, .string qs, .string qa, .string qp, .slice (some ⟨2, 0, none⟩) n2 2, .int .i64 qk]⟩], [r0, r1, r2] => some (IsF r0 n0 ∧ IsF r1 n1 ∧ IsF r2 n2 ∧ n0 ≤ maxLen ∧ n1 ≤ maxLen ∧ n2 ≤ maxLen ∧ BigW1 r1 ∧ BigW1 r2, .bool (samR r1 r2), [])
  | _, _ => none
def eLg : EntM := entC 26 fun a r => match a, r with
  | [.slice (some ⟨0, 0, none⟩) n 2], [r0] => some (IsF r0 n ∧ n ≤ 1048576 ∧ ShR r0, .bool (lgR r0), [])
  | _, _ => none
def eRoom : EntM := entC 17 fun a r => match a, r with
  | [.slice (some ⟨0, 0, none⟩) n 2, .agg ⟨[.string a, .string b]⟩], [r0] => some (IsF r0 n ∧ n ≤ 16777000, .slice (some ⟨1, 0, none⟩) (n + 80) 2, [⟨rmC r0 a b, false, .cells true⟩])
  | _, _ => none
noncomputable def eInt : EntM := entC 24 fun a r => match a, r with
  | [.slice (some ⟨0, 0, none⟩) n 2, .slice (some ⟨1, 0, none⟩) m 2, .agg ⟨[.string a, .string b]⟩], [r0, r1] => some (IsF r0 n ∧ IsF r1 m ∧ n ≤ maxLen ∧ m ≤ 16777000, .bool (inB r0 r1 a b), [])
  | _, _ => none
def eCl : EntM := entC 13 fun a r => match a, r with
  | [.agg ⟨[.string qm, .string qs, .string qa, .string qp, .slice (some ⟨0, 0, none⟩) n0 2, .int .i64 qk]⟩, .agg ⟨[.int .i64 rs, .slice (some ⟨1, 0, none⟩) n1 2, .int .i64 rk]⟩], [r0, r1] => some (IsF r0 n0 ∧ IsF r1 n1, .bool (clB qm rs), [])
  | _, _ => none
def eCl2 : EntM := entC 22 fun a r => match a, r with
  | [.agg ⟨[.string qm, .string qs, .string qa, .string qp, .slice (some ⟨0, 0, none⟩) n0 2, .int .i64 qk]⟩, .agg ⟨[.int .i64 rs, .slice (some ⟨1, 0, none⟩) n1 2, .int .i64 rk]⟩], [r0, r1] => some (IsF r0 n0 ∧ IsF r1 n1, .bool (clB qm rs), [])
  | _, _ => none
noncomputable def eRqE : EntM := entC 19 fun a r => match a, r with
  | [.agg ⟨[.string m, .string s, .string a, .string p, .slice (some ⟨0, 0, none⟩) n 2, .int .i64 k]⟩, .agg ⟨[.string m2, .string s2, .string a2, .string p2, .slice (some ⟨1, 0, none⟩) n2 2, .int .i64 k2]⟩], [r0, r1] => some (IsF r0 n ∧ IsF r1 n2 ∧ n ≤ maxLen, .bool (rqE ⟨m, s, a, p, k⟩ ⟨m2, s2, a2, p2, k2⟩ r0 r1), [])
  | _, _ => none
noncomputable def eEnE : EntM := entC 20 fun a r => match a, r with
  | [.agg ⟨[.string em, .string es, .string ea, .string ep, .slice (some ⟨0, 0, none⟩) n0 2, .int .i64 ek, .int .i64 st, .slice (some ⟨1, 0, none⟩) n1 2, .int .i64 k2, .string body, .int .i64 asked, .int .i64 came]⟩, .agg ⟨[.string fm, .string fs, .string fa, .string fp, .slice (some ⟨2, 0, none⟩) m0 2, .int .i64 fk, .int .i64 ft, .slice (some ⟨3, 0, none⟩) m1 2, .int .i64 l2, .string fbody, .int .i64 fasked, .int .i64 fcame]⟩], [r0, r1, r2, r3] => some (IsF r0 n0 ∧ IsF r1 n1 ∧ IsF r2 m0 ∧ IsF r3 m1 ∧ n0 ≤ maxLen ∧ n1 ≤ maxLen, .bool (enE ⟨em, es, ea, ep, ek, st, k2, body, asked, came⟩ ⟨fm, fs, fa, fp, fk, ft, l2, fbody, fasked, fcame⟩ r0 r1 r2 r3), [])
  | _, _ => none
noncomputable def eSaF : EntM := entC 15 fun a r => match a, r with
  | [.slice (some ⟨0, 0, none⟩) n 2, .slice (some ⟨1, 0, none⟩) m 2], [r0, r1] => some (IsF r0 n ∧ IsF r1 m ∧ n ≤ maxLen, .bool (saB r0 r1), [])
  | _, _ => none
def eRaAll : EntM := entC 27 fun a r => match a, r with
  | [.slice (some ⟨0, 0, none⟩) n 2, .string s], [r0] => some (IsF r0 n ∧ n ≤ maxLen ∧ alB r0 s ≤ 16777216, .tuple #[.string (alV r0 s), .int .i64 (alN r0 s)], [])
  | _, _ => none
def eMgRuns : EntM := entC 3 fun a r => match a, r with
  | [], [] => some (True, .bool true, [])
  | _, _ => none
theorem dF (l : List Fl) : decF (gRo enF l).cells = l := decF_gC l
theorem eAs_ok : EntOk Try.prog eAs := entC_ok (by
  intro a rows p v news h hp
  split at h <;> simp only [Option.some.injEq, Prod.mk.injEq, reduceCtorEq] at h
  obtain ⟨rfl, rfl, rfl⟩ := h
  obtain ⟨⟨l0, rfl, rfl⟩, ⟨l1, rfl, rfl⟩, ⟨l2, rfl, rfl⟩, h0, h1, h2, b1⟩ := hp
  simp only [BigW1, asN, asC, asB, dF] at b1 ⊢
  exact As_con ⟨_, _, _, _, _, _, _, _, _, _⟩ ⟨_, _, _, _, _⟩ l0 l1 l2 h0 h1 h2 b1)
theorem eRk_ok (fl : Bool) : EntOk Try.prog (eRk fl) := entC_ok (by
  intro a rows p v news h hp
  cases fl
  · split at h <;> simp only [Option.some.injEq, Prod.mk.injEq, reduceCtorEq] at h
    obtain ⟨rfl, rfl, rfl⟩ := h
    obtain ⟨hf, ⟨l0, rfl, rfl⟩, ⟨l1, rfl, rfl⟩, ⟨l2, rfl, rfl⟩, h0, h1, h2, b1⟩ := hp
    simp only [BigW1, asB, dF] at hf b1
    exact Rk_con0 ⟨_, _, _, _, _, _, _, _, _, _⟩ ⟨_, _, _, _, _⟩ l0 l1 l2 h0 h1 h2 b1 hf
  · split at h <;> simp only [Option.some.injEq, Prod.mk.injEq, reduceCtorEq] at h
    obtain ⟨rfl, rfl, rfl⟩ := h
    obtain ⟨hf, ⟨l0, rfl, rfl⟩, ⟨l1, rfl, rfl⟩, ⟨l2, rfl, rfl⟩, h0, h1, h2, b1⟩ := hp
    simp only [BigW1, asN, asC, asB, dF] at hf b1 ⊢
    exact Rk_con ⟨_, _, _, _, _, _, _, _, _, _⟩ ⟨_, _, _, _, _⟩ l0 l1 l2 h0 h1 h2 b1 hf)
theorem eRn_ok : EntOk Try.prog eRn := entC_ok (by
  intro a rows p v news h hp
  split at h <;> simp only [Option.some.injEq, Prod.mk.injEq, reduceCtorEq] at h
  obtain ⟨rfl, rfl, rfl⟩ := h
  obtain ⟨⟨l0, rfl, rfl⟩, ⟨l1, rfl, rfl⟩, ⟨l2, rfl, rfl⟩, h0, h1, b1⟩ := hp
  simp only [BigW1, rnN, rnC, dN, dC, dF] at b1 ⊢
  exact Rn_con ⟨_, _, _, _, _, _, _, _, _, _⟩ _ _ _ _ l0 l1 l2 h0 h1 b1)
theorem eRe_ok : EntOk Try.prog eRe := entC_ok (by
  intro a rows p v news h hp
  split at h <;> simp only [Option.some.injEq, Prod.mk.injEq, reduceCtorEq] at h
  obtain ⟨rfl, rfl, rfl⟩ := h
  obtain ⟨⟨l0, rfl, rfl⟩, ⟨l1, rfl, rfl⟩, ⟨l2, rfl, rfl⟩, h0, h1, b1⟩ := hp
  simp only [BigW1, meN, meC, dN, dF] at b1 ⊢
  exact Re_con ⟨_, _, _, _, _, _, _, _, _, _⟩ _ _ _ _ l0 l1 l2 h0 h1 b1)
theorem eRu_ok : EntOk Try.prog eRu := entC_ok (by
  intro a rows p v news h hp
  split at h <;> simp only [Option.some.injEq, Prod.mk.injEq, reduceCtorEq] at h
  obtain ⟨rfl, rfl, rfl⟩ := h
  obtain ⟨⟨l0, rfl, rfl⟩, ⟨l1, rfl, rfl⟩, ⟨l2, rfl, rfl⟩, h0, h1, h2, b1, b2⟩ := hp
  simp only [BigW1, samR, dF, List.append_nil] at b1 b2 ⊢
  exact Ru_con ⟨_, _, _, _, _, _, _, _, _, _⟩ ⟨_, _, _, _, _⟩ l0 l1 l2 h0 h1 h2 b1 b2)
theorem eSm_ok : EntOk Try.prog eSm := entC_ok (by
  intro a rows p v news h hp
  split at h <;> simp only [Option.some.injEq, Prod.mk.injEq, reduceCtorEq] at h
  obtain ⟨rfl, rfl, rfl⟩ := h
  obtain ⟨⟨l0, rfl, rfl⟩, ⟨l1, rfl, rfl⟩, ⟨l2, rfl, rfl⟩, h0, h1, h2, b1, b2⟩ := hp
  simp only [BigW1, samR, dF, List.append_nil] at b1 b2 ⊢
  exact Sm_con ⟨_, _, _, _, _, _, _, _, _, _⟩ ⟨_, _, _, _, _⟩ l0 l1 l2 h0 h1 h2 b1 b2)
theorem eLg_ok : EntOk Try.prog eLg := entC_ok (by
  intro a rows p v news h hp
  split at h <;> simp only [Option.some.injEq, Prod.mk.injEq, reduceCtorEq] at h
  obtain ⟨rfl, rfl, rfl⟩ := h
  obtain ⟨⟨l, rfl, rfl⟩, h1, h2⟩ := hp
  simp only [ShR, lgR, dF, List.append_nil] at h2 ⊢
  exact Lg_con l h1 h2)
theorem eRoom_ok : EntOk Try.prog eRoom := entC_ok (by
  intro a rows p v news h hp
  split at h <;> simp only [Option.some.injEq, Prod.mk.injEq, reduceCtorEq] at h
  obtain ⟨rfl, rfl, rfl⟩ := h
  obtain ⟨⟨l, rfl, rfl⟩, h1⟩ := hp
  simp only [rmC, dF]
  exact Go.Proofs.Ythkidlkcjohppaa.fb.roomy_con l ⟨L _, L _⟩ (by omega))
theorem eInt_ok : EntOk Try.prog eInt := entC_ok (by
  intro a rows p v news h hp
  split at h <;> simp only [Option.some.injEq, Prod.mk.injEq, reduceCtorEq] at h
  obtain ⟨rfl, rfl, rfl⟩ := h
  obtain ⟨⟨l, rfl, rfl⟩, ⟨l2, rfl, rfl⟩, h1, h2⟩ := hp
  simp only [inB, dF, List.append_nil]
  exact Go.Proofs.Ythkidlkcjohppaa.fb.int_con l l2 ⟨L _, L _⟩ h1 (by omega))
theorem eCl_ok : EntOk Try.prog eCl := entC_ok (by
  intro a rows p v news h hp
  split at h <;> simp only [Option.some.injEq, Prod.mk.injEq, reduceCtorEq] at h
  obtain ⟨rfl, rfl, rfl⟩ := h
  obtain ⟨⟨l, rfl, rfl⟩, ⟨l2, rfl, rfl⟩⟩ := hp
  exact cl_con ⟨_, _, _, _, _⟩ _ _ l l2)
theorem eCl2_ok : EntOk Try.prog eCl2 := entC_ok (by
  intro a rows p v news h hp
  split at h <;> simp only [Option.some.injEq, Prod.mk.injEq, reduceCtorEq] at h
  obtain ⟨rfl, rfl, rfl⟩ := h
  obtain ⟨⟨l, rfl, rfl⟩, ⟨l2, rfl, rfl⟩⟩ := hp
  exact cl2_con ⟨_, _, _, _, _⟩ _ _ l l2)
theorem eRqE_ok : EntOk Try.prog eRqE := entC_ok (by
  intro a rows p v news h hp
  split at h <;> simp only [Option.some.injEq, Prod.mk.injEq, reduceCtorEq] at h
  obtain ⟨rfl, rfl, rfl⟩ := h
  obtain ⟨⟨l, rfl, rfl⟩, ⟨l2, rfl, rfl⟩, h1⟩ := hp
  simp only [List.append_nil]
  exact rqE_con ⟨_, _, _, _, _⟩ ⟨_, _, _, _, _⟩ l l2 h1)
theorem eEnE_ok : EntOk Try.prog eEnE := entC_ok (by
  intro a rows p v news h hp
  split at h <;> simp only [Option.some.injEq, Prod.mk.injEq, reduceCtorEq] at h
  obtain ⟨rfl, rfl, rfl⟩ := h
  obtain ⟨⟨l0, rfl, rfl⟩, ⟨l1, rfl, rfl⟩, ⟨l2, rfl, rfl⟩, ⟨l3, rfl, rfl⟩, h1, h2⟩ := hp
  simp only [List.append_nil]
  exact enE_con ⟨_, _, _, _, _, _, _, _, _, _⟩ ⟨_, _, _, _, _, _, _, _, _, _⟩ l0 l1 l2 l3 h1 h2)
theorem eSaF_ok : EntOk Try.prog eSaF := entC_ok (by
  intro a rows p v news h hp
  split at h <;> simp only [Option.some.injEq, Prod.mk.injEq, reduceCtorEq] at h
  obtain ⟨rfl, rfl, rfl⟩ := h
  obtain ⟨⟨l, rfl, rfl⟩, ⟨l2, rfl, rfl⟩, h1⟩ := hp
  simp only [saB, dF, List.append_nil]
  exact Go.Proofs.Ythkidlkcjohppaa.fb.same_con l l2 h1)
theorem eRaAll_ok : EntOk Try.prog eRaAll := entC_ok (by
  intro a rows p v news h hp
  split at h <;> simp only [Option.some.injEq, Prod.mk.injEq, reduceCtorEq] at h
  obtain ⟨rfl, rfl, rfl⟩ := h
  obtain ⟨⟨l, rfl, rfl⟩, h1, h2⟩ := hp
  simp only [alV, alN, alB, dF, List.append_nil] at h2 ⊢
  exact Ra_con l (L _) h1 h2)
theorem eMgRuns_ok : EntOk Try.prog eMgRuns := entC_ok (by
  intro a rows p v news h hp
  split at h <;> simp only [Option.some.injEq, Prod.mk.injEq, reduceCtorEq] at h
  obtain ⟨rfl, rfl, rfl⟩ := h
  exact con_run mixed (n := 1000000) (by kernel_rfl) (by kernel_rfl))
-- what is rewritten of them
theorem n_rmC (l : List Fl) (b : Bool) (o : Ob) (x y : ByteArray) : rmC ⟨gC enF l, b, o⟩ x y = gC enF (l ++ List.replicate 80 ⟨L x, L y⟩) := by unfold rmC; simp only; rw [decF_gC]
theorem n_asN (a b : List Fl) (x y : Bool) (o p : Ob) : asN ⟨gC enF a, x, o⟩ ⟨gC enF b, y, p⟩ = (askL a b).length := by unfold asN; simp only; rw [decF_gC, decF_gC]
theorem n_asC (a b : List Fl) (x y : Bool) (o p : Ob) : asC ⟨gC enF a, x, o⟩ ⟨gC enF b, y, p⟩ = gC enF (askL a b) := by unfold asC; simp only; rw [decF_gC, decF_gC]
theorem n_asB (a : List Fl) (x : Bool) (o : Ob) : asB ⟨gC enF a, x, o⟩ = askB a := by unfold asB; simp only; rw [decF_gC]
theorem n_rnN (a b : List Fl) (x y : Bool) (o p : Ob) : rnN ⟨gC enF a, x, o⟩ ⟨gC enF b, y, p⟩ = (renL a b).length := by unfold rnN; simp only; rw [decF_gC, decF_gC]
theorem n_rnC (a b : List Fl) (x y : Bool) (o p : Ob) : rnC ⟨gC enF a, x, o⟩ ⟨gC enF b, y, p⟩ = gC enF (renL a b) := by unfold rnC; simp only; rw [decF_gC, decF_gC]
theorem n_meN (a b : List Fl) (x y : Bool) (o p : Ob) : meN ⟨gC enF a, x, o⟩ ⟨gC enF b, y, p⟩ = (merL a b).length := by unfold meN; simp only; rw [decF_gC, decF_gC]
theorem n_meC (a b : List Fl) (x y : Bool) (o p : Ob) : meC ⟨gC enF a, x, o⟩ ⟨gC enF b, y, p⟩ = gC enF (merL a b) := by unfold meC; simp only; rw [decF_gC, decF_gC]
theorem n_dN (a : List Fl) (x : Bool) (o : Ob) : dN ⟨gC enF a, x, o⟩ = a.length := by unfold dN; simp only; rw [decF_gC]
theorem n_dC (a : List Fl) (x : Bool) (o : Ob) : dC ⟨gC enF a, x, o⟩ = gC enF a := by unfold dC; simp only; rw [decF_gC]
theorem n_sam (a b : List Fl) (x y : Bool) (o p : Ob) : samR ⟨gC enF a, x, o⟩ ⟨gC enF b, y, p⟩ = samL a b := by unfold samR; simp only; rw [decF_gC, decF_gC]
theorem n_big (a : List Fl) (x : Bool) (o : Ob) : BigW1 ⟨gC enF a, x, o⟩ = BigW a := by unfold BigW1; simp only; rw [decF_gC]
theorem n_lg (l : List Fl) (b : Bool) (o : Ob) : lgR ⟨gC enF l, b, o⟩ = lgB l := by unfold lgR; simp only; rw [decF_gC]
theorem n_sh (l : List Fl) (b : Bool) (o : Ob) : ShR ⟨gC enF l, b, o⟩ = ShortF l := by unfold ShR; simp only; rw [decF_gC]
theorem n_in (l m : List Fl) (b c : Bool) (o p : Ob) (x y : ByteArray) : inB ⟨gC enF l, b, o⟩ ⟨gC enF m, c, p⟩ x y = Go.Proofs.Ythkidlkcjohppaa.fb.sameSe l (m ++ List.replicate 80 ⟨L x, L y⟩) := by unfold inB; simp only; rw [decF_gC, decF_gC]
theorem n_alB (l : List Fl) (b : Bool) (o : Ob) (nm : List UInt8) : alB ⟨gC enF l, b, o⟩ (bs nm) = (allL l nm).length := by unfold alB; simp only; rw [decF_gC, L_bs]
theorem n_alN (l : List Fl) (b : Bool) (o : Ob) (nm : List UInt8) : alN ⟨gC enF l, b, o⟩ (bs nm) = (allN nm l : Nat) := by unfold alN; simp only; rw [decF_gC, L_bs]
theorem n_alV (l : List Fl) (b : Bool) (o : Ob) (nm : List UInt8) : alV ⟨gC enF l, b, o⟩ (bs nm) = bs (allL l nm) := by unfold alV; simp only; rw [decF_gC, L_bs]
theorem tkF (a b : List Fl) : List.take (a.length * 2) (gC enF (a ++ b)) = gC enF a := by rw [← gC_app, ← fLen a, List.take_left]
theorem isF_eq (l : List Fl) : IsF ⟨gC enF l, true, .cells true⟩ l.length = True := eq_true (isF_mk _ _ rfl)
theorem gPl (l : List Fl) (n : Nat) : Plain (List.take n (gC enF l)) = True := eq_true (fun v hv => fPl l v (List.mem_of_mem_take hv))
theorem sameSe_self (l : List Fl) : Go.Proofs.Ythkidlkcjohppaa.fb.sameSe l l = true := Go.Proofs.Ythkidlkcjohppaa.fb.sameSe_yes rfl
theorem strEq_me (s : ByteArray) : strEq s s = true := by
  have := strEq_bs (L s) (L s)
  rw [bsL] at this; rw [this]; simp
theorem light_big {l : List Fl} (h : lgB l = true) : lgN l ≤ 2000 ∧ l.length ≤ 2000 ∧ BigW l := by
  have h1 : lgN l ≤ 2000 := by unfold lgB at h; simpa using h
  exact ⟨h1, Nat.le_trans (lgN_len l) h1, fun x => by have := allL_le l x; omega⟩
end Go.Proofs.Ythkidlkcjohppaa.tk
