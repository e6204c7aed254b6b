/- Both readers' Feed as entries; what is copied with room behind. -/
import Derived.Test.YtkeiogmapogpnaaSz9
import Derived.Test.YtkeiogmapogpnaaRows
import Derived.Test.YtkeiogmapogpnaaLfj
import Derived.Test.YtkeiogmapogpnaaLbkR
set_option linter.unusedSimpArgs false
set_option linter.unusedVariables false
namespace Go.Proofs.Ytkeiogmapogpnaa.fe
open Go Go.Ev Go.Sy Go.RowKit Go.Proofs.Ytkeiogmapogpnaa.s9 Go.Proofs.Ytkeiogmapogpnaa.fd Go.Proofs.Ytkeiogmapogpnaa.gl
theorem sl_ex {α : Type} (f : α) : ∃ g, g = f := ⟨f, rfl⟩
noncomputable def sealV {α : Type} (f : α) : α := Classical.choose (sl_ex f)
theorem sealV_eq {α : Type} (f : α) : sealV f = f := Classical.choose_spec (sl_ex f)
def qO (r : Row) (k : Nat) (st : ByteArray) (sc co : Int) : Rq := ⟨⟨dB r, k, decide (sc ≠ 0)⟩, st.data.toList, co⟩
abbrev QF (α : Type) := Row → Nat → Int → ByteArray → Int → Int → Row → α
noncomputable def pL : QF (List Bf) := sealV fun r k m st sc co b => fqL m (qO r k st sc co) (dB b)
noncomputable def pX : QF (List UInt8) := sealV fun r k m st sc co b => (fqS m (qO r k st sc co) (dB b)).x
noncomputable def pK : QF Nat := sealV fun r k m st sc co b => (fqS m (qO r k st sc co) (dB b)).k
noncomputable def pN : QF Nat := sealV fun r k m st sc co b => (fqS m (qO r k st sc co) (dB b)).x.length - (fqS m (qO r k st sc co) (dB b)).k
noncomputable def pT : QF ByteArray := sealV fun r k m st sc co b => bz (fqT m (qO r k st sc co) (dB b))
noncomputable def pB : QF Int := sealV fun r k m st sc co b => scB (fqB m (qO r k st sc co) (dB b))
noncomputable def pC : QF Int := sealV fun r k m st sc co b => fqC m (qO r k st sc co) (dB b)
noncomputable def pM : QF Nat := sealV fun r k m st sc co b => (fqL m (qO r k st sc co) (dB b)).length
noncomputable def uL : QF (List Bf) := sealV fun r k m st sc co b => dqL m (qO r k st sc co) (dB b)
noncomputable def uX : QF (List UInt8) := sealV fun r k m st sc co b => (dqS m (qO r k st sc co) (dB b)).x
noncomputable def uK : QF Nat := sealV fun r k m st sc co b => (dqS m (qO r k st sc co) (dB b)).k
noncomputable def uN : QF Nat := sealV fun r k m st sc co b => (dqS m (qO r k st sc co) (dB b)).x.length - (dqS m (qO r k st sc co) (dB b)).k
noncomputable def uT : QF ByteArray := sealV fun r k m st sc co b => bz (dqT m (qO r k st sc co) (dB b))
noncomputable def uB : QF Int := sealV fun r k m st sc co b => scB (dqB m (qO r k st sc co) (dB b))
noncomputable def uC : QF Int := sealV fun r k m st sc co b => dqC m (qO r k st sc co) (dB b)
noncomputable def uM : QF Nat := sealV fun r k m st sc co b => (dqL m (qO r k st sc co) (dB b)).length
def rdX (q k n : Nat) (m : Int) (st : ByteArray) (sc co : Int) : Row := ⟨[.slice (some ⟨q, k, none⟩) n 1, .int .i64 m, .string st, .int .i64 sc, .int .i64 co, .int .i64 0], false, .cells false⟩
def rdY (q k n : Nat) (m : Int) (st : ByteArray) (sc co : Int) : Row := ⟨[.slice (some ⟨q, k, none⟩) n 1, .string st, .int .i64 m, .int .i64 sc, .int .i64 co, .int .i64 0], false, .cells false⟩
def IsQ (r1 : Row) (k n : Nat) (st : ByteArray) (sc co : Int) (r2 : Row) (nb : Nat) : Prop := ∃ (q : Rq) (b : List UInt8), r1 = bOwn q.r.x ∧ k = q.r.k ∧ n = q.r.x.length - q.r.k ∧ st = bz q.s ∧ sc = scB q.r.bad ∧ co = q.c ∧ QOk q ∧ r2 = bRo b ∧ nb = b.length ∧ q.r.x.length + b.length ≤ 16777216
noncomputable def eFP : EntM := (14, fun a r => match a, r with
  | [.pointer (some ⟨0, 0, none⟩), .slice (some ⟨1, 0, none⟩) nb 1], [⟨[.slice (some ⟨2, k, none⟩) n 1, .int .i64 m, .string st, .int .i64 sc, .int .i64 co, .int .i64 0], false, .cells false⟩, r2, r1] =>
    some (IsQ r1 k n st sc co r2 nb, .tuple ⟨[slc4 5 (pM r1 k m st sc co r2), badV (pB r1 k m st sc co r2) (pC r1 k m st sc co r2) 0]⟩, 6, [(0, rdX 4 (pK r1 k m st sc co r2) (pN r1 k m st sc co r2) m (pT r1 k m st sc co r2) (pB r1 k m st sc co r2) (pC r1 k m st sc co r2)), (4, bOwn (pX r1 k m st sc co r2)), (5, gOwn enG (pL r1 k m st sc co r2))])
  | _, _ => none)
noncomputable def eFD : EntM := (23, fun a r => match a, r with
  | [.pointer (some ⟨0, 0, none⟩), .slice (some ⟨1, 0, none⟩) nb 1], [⟨[.slice (some ⟨2, k, none⟩) n 1, .string st, .int .i64 m, .int .i64 sc, .int .i64 co, .int .i64 0], false, .cells false⟩, r2, r1] =>
    some (IsQ r1 k n st sc co r2 nb, .tuple ⟨[slc4 5 (uM r1 k m st sc co r2), badV (uB r1 k m st sc co r2) (uC r1 k m st sc co r2) 0]⟩, 6, [(0, rdY 4 (uK r1 k m st sc co r2) (uN r1 k m st sc co r2) m (uT r1 k m st sc co r2) (uB r1 k m st sc co r2) (uC r1 k m st sc co r2)), (4, bOwn (uX r1 k m st sc co r2)), (5, gOwn enG (uL r1 k m st sc co r2))])
  | _, _ => none)
def u8i (m : Int) : UInt8 := UInt8.ofNat m.toNat
def IsU8 (m : Int) : Prop := ∃ b : UInt8, m = b.toNat
def pad80 (l : List UInt8) (m : UInt8) : List UInt8 := l ++ List.replicate 80 m
noncomputable def padL : Row → Int → List UInt8 := sealV fun r m => pad80 (dB r) (u8i m)
noncomputable def inI : Row → Row → Int → Bool := sealV fun r0 r1 k => decide (dB r0 = pad80 (dB r1) (u8i k))
noncomputable def eRoo : EntM := entC 18 fun a r => match a, r with
  | [.slice (some ⟨0, 0, none⟩) n 1, .int .u8 m], [r0] => some (IsB r0 n ∧ IsU8 m ∧ n ≤ 16777136, slc 1 (n + 80), [bOwn (padL r0 m)])
  | _, _ => none
noncomputable def eIntB : EntM := entC 22 fun a r => match a, r with
  | [.slice (some ⟨0, 0, none⟩) n 1, .slice (some ⟨1, 0, none⟩) m 1, .int .u8 k], [r0, r1] => some (IsB r0 n ∧ IsB r1 m ∧ IsU8 k ∧ n ≤ maxLen ∧ m ≤ 9223372036854775000, .bool (inI r0 r1 k), [])
  | _, _ => none
theorem eRoo_ok : EntOk Try.prog eRoo := entC_ok (by
  intro a rows p v news h hp
  split at h <;> simp only [Option.some.injEq, Prod.mk.injEq, reduceCtorEq] at h
  obtain ⟨rfl, rfl, rfl⟩ := h
  obtain ⟨⟨l, rfl, rfl⟩, ⟨m, rfl⟩, h1⟩ := hp
  simp only [padL, sealV_eq, dB_ro, u8i, Int.toNat_natCast, UInt8.ofNat_toNat]
  exact Go.Proofs.Ytkeiogmapogpnaa.bk.roomy_con l m h1)
theorem eIntB_ok : EntOk Try.prog eIntB := entC_ok (by
  intro a rows p v news h hp
  split at h <;> simp only [Option.some.injEq, Prod.mk.injEq, reduceCtorEq] at h
  obtain ⟨rfl, rfl, rfl⟩ := h
  obtain ⟨⟨l, rfl, rfl⟩, ⟨l2, rfl, rfl⟩, ⟨m, rfl⟩, h1, h2⟩ := hp
  simp only [inI, sealV_eq, dB_ro, u8i, Int.toNat_natCast, UInt8.ofNat_toNat, List.append_nil]
  exact Go.Proofs.Ytkeiogmapogpnaa.bk.int_con l l2 m h1 h2)
theorem qO_mk (q : Rq) : qO (bOwn q.r.x) q.r.k (bz q.s) (scB q.r.bad) q.c = q := by
  unfold qO
  rw [show dB (bOwn q.r.x) = q.r.x from dB_mk _ _ _, show (bz q.s).data.toList = q.s from by simp [bz]]
  obtain ⟨⟨x, k, b⟩, s, c⟩ := q
  cases b <;> rfl
theorem p_all (q : Rq) (m : Int) (b : List UInt8) (z : Bool) (o : Ob) : pL (bOwn q.r.x) q.r.k m (bz q.s) (scB q.r.bad) q.c ⟨bCells b, z, o⟩ = fqL m q b ∧ pX (bOwn q.r.x) q.r.k m (bz q.s) (scB q.r.bad) q.c ⟨bCells b, z, o⟩ = (fqS m q b).x ∧ pK (bOwn q.r.x) q.r.k m (bz q.s) (scB q.r.bad) q.c ⟨bCells b, z, o⟩ = (fqS m q b).k ∧ pN (bOwn q.r.x) q.r.k m (bz q.s) (scB q.r.bad) q.c ⟨bCells b, z, o⟩ = (fqS m q b).x.length - (fqS m q b).k ∧ pT (bOwn q.r.x) q.r.k m (bz q.s) (scB q.r.bad) q.c ⟨bCells b, z, o⟩ = bz (fqT m q b) ∧ pB (bOwn q.r.x) q.r.k m (bz q.s) (scB q.r.bad) q.c ⟨bCells b, z, o⟩ = scB (fqB m q b) ∧ pC (bOwn q.r.x) q.r.k m (bz q.s) (scB q.r.bad) q.c ⟨bCells b, z, o⟩ = fqC m q b ∧ pM (bOwn q.r.x) q.r.k m (bz q.s) (scB q.r.bad) q.c ⟨bCells b, z, o⟩ = (fqL m q b).length := by
  simp only [pL, pX, pK, pN, pT, pB, pC, pM, sealV_eq, qO_mk, dB_mk, and_self]
theorem u_all (q : Rq) (m : Int) (b : List UInt8) (z : Bool) (o : Ob) : uL (bOwn q.r.x) q.r.k m (bz q.s) (scB q.r.bad) q.c ⟨bCells b, z, o⟩ = dqL m q b ∧ uX (bOwn q.r.x) q.r.k m (bz q.s) (scB q.r.bad) q.c ⟨bCells b, z, o⟩ = (dqS m q b).x ∧ uK (bOwn q.r.x) q.r.k m (bz q.s) (scB q.r.bad) q.c ⟨bCells b, z, o⟩ = (dqS m q b).k ∧ uN (bOwn q.r.x) q.r.k m (bz q.s) (scB q.r.bad) q.c ⟨bCells b, z, o⟩ = (dqS m q b).x.length - (dqS m q b).k ∧ uT (bOwn q.r.x) q.r.k m (bz q.s) (scB q.r.bad) q.c ⟨bCells b, z, o⟩ = bz (dqT m q b) ∧ uB (bOwn q.r.x) q.r.k m (bz q.s) (scB q.r.bad) q.c ⟨bCells b, z, o⟩ = scB (dqB m q b) ∧ uC (bOwn q.r.x) q.r.k m (bz q.s) (scB q.r.bad) q.c ⟨bCells b, z, o⟩ = dqC m q b ∧ uM (bOwn q.r.x) q.r.k m (bz q.s) (scB q.r.bad) q.c ⟨bCells b, z, o⟩ = (dqL m q b).length := by
  simp only [uL, uX, uK, uN, uT, uB, uC, uM, sealV_eq, qO_mk, dB_mk, and_self]
theorem eFP_ok : EntOk Try.prog eFP := by
  intro a rows p v n' rl he hp
  simp only [eFP] at he
  split at he
  · simp only [Option.some.injEq, Prod.mk.injEq] at he
    obtain ⟨rfl, rfl, rfl, rfl⟩ := he
    obtain ⟨q, b, rfl, rfl, rfl, rfl, rfl, rfl, ⟨h1, h3⟩, rfl, rfl, h2⟩ := hp
    rename_i m
    unfold bRo
    obtain ⟨e1, e2, e3, e4, e5, e6, e7, e8⟩ := p_all q m b true (.cells true)
    rw [e1, e2, e3, e4, e5, e6, e7, e8]
    exact Q_con q b m h1 h3 h2
  · simp at he
theorem eFD_ok : EntOk Try.prog eFD := by
  intro a rows p v n' rl he hp
  simp only [eFD] at he
  split at he
  · simp only [Option.some.injEq, Prod.mk.injEq] at he
    obtain ⟨rfl, rfl, rfl, rfl⟩ := he
    obtain ⟨q, b, rfl, rfl, rfl, rfl, rfl, rfl, ⟨h1, h3⟩, rfl, rfl, h2⟩ := hp
    rename_i m
    unfold bRo
    obtain ⟨e1, e2, e3, e4, e5, e6, e7, e8⟩ := u_all q m b true (.cells true)
    rw [e1, e2, e3, e4, e5, e6, e7, e8]
    exact Y_con q b m h1 h3 h2
  · simp at he
end Go.Proofs.Ytkeiogmapogpnaa.fe
