/- What stage nine's statements call, as entries. -/
import Derived.Test.YtkeiogmapogpnaaSz9
import Derived.Test.YtkeiogmapogpnaaRows
import Derived.Test.YtkeiogmapogpnaaLfs
import Derived.Test.YtkeiogmapogpnaaLfq
import Derived.Test.YtkeiogmapogpnaaLwit
set_option linter.unusedSimpArgs false
set_option linter.unusedVariables false
namespace Go.Proofs.Ytkeiogmapogpnaa.fe
open Go Go.Ev Go.Sy Go.RowKit Go.Proofs.Ytkeiogmapogpnaa.s9 Go.Proofs.Ytkeiogmapogpnaa.fd Go.Proofs.Ytkeiogmapogpnaa.gl
noncomputable def eWiF : EntM := entC 24 fun a r => match a, r with
  | [.int .i64 n, .int .i64 lo, .int .i64 hi], [] => some (I64 n ∧ -1000000000000 ≤ lo ∧ hi ≤ 1000000000000 ∧ lo ≤ hi, .int .i64 (Go.Proofs.Ytkeiogmapogpnaa.tk.inside n lo hi), [])
  | _, _ => none
noncomputable def eRunF : EntM := entC 3 fun a r => match a, r with
  | [], [] => some (True, .bool true, [])
  | _, _ => none
theorem pu_ex (f : Row → Row → Int → Int → Int → List UInt8) : ∃ g, g = f := ⟨f, rfl⟩
noncomputable def zP : Row → Row → Int → Int → Int → List UInt8 := Classical.choose (pu_ex fun a b t f s => frO (dB a) (dB b) t f s)
noncomputable def zPn (a b : Row) (t f s : Int) : Nat := (zP a b t f s).length
noncomputable def ePut : EntM := entC 11 fun a r => match a, r with
  | [.slice (some ⟨0, 0, none⟩) n 1, .agg ⟨[.int .i64 t, .int .i64 f, .int .i64 s, .slice (some ⟨1, 0, none⟩) m 1]⟩], [r0, r1] => some (IsB r0 n ∧ IsB r1 m ∧ n ≤ 2000000 ∧ m ≤ 1000000, slc 2 (zPn r0 r1 t f s), [bOwn (zP r0 r1 t f s)])
  | _, _ => none
theorem eWiF_ok : EntOk Try.prog eWiF := entC_ok (by
  intro a rows p v news h hp
  split at h <;> simp only [Option.some.injEq, Prod.mk.injEq, reduceCtorEq] at h
  obtain ⟨rfl, rfl, rfl⟩ := h
  exact Go.Proofs.Ytkeiogmapogpnaa.tk.within_con _ _ _ hp.1 hp.2.1 hp.2.2.1 hp.2.2.2)
theorem eRunF_ok : EntOk Try.prog eRunF := entC_ok (by
  intro a rows p v news h hp
  split at h <;> simp only [Option.some.injEq, Prod.mk.injEq, reduceCtorEq] at h
  obtain ⟨rfl, rfl, rfl⟩ := h
  exact con_run mixed (n := 1000000) (by kernel_rfl) (by kernel_rfl))
theorem zP_mk (a b : List UInt8) (t f s : Int) (x y : Bool) (o u : Ob) : zP ⟨bCells a, x, o⟩ ⟨bCells b, y, u⟩ t f s = frO a b t f s := by unfold zP; rw [Classical.choose_spec (pu_ex _), dB_mk, dB_mk]
theorem z_new (m : Int) (b : List UInt8) : zL ⟨[], false, .cells true⟩ 0 m 0 ⟨bCells b, true, .cells true⟩ = fdL m ⟨[], 0, false⟩ b ∧ zX ⟨[], false, .cells true⟩ 0 m 0 ⟨bCells b, true, .cells true⟩ = (fdS m ⟨[], 0, false⟩ b).x ∧ zK ⟨[], false, .cells true⟩ 0 m 0 ⟨bCells b, true, .cells true⟩ = (fdS m ⟨[], 0, false⟩ b).k ∧ zN ⟨[], false, .cells true⟩ 0 m 0 ⟨bCells b, true, .cells true⟩ = (fdS m ⟨[], 0, false⟩ b).x.length - (fdS m ⟨[], 0, false⟩ b).k ∧ zB ⟨[], false, .cells true⟩ 0 m 0 ⟨bCells b, true, .cells true⟩ = scB (fdB m ⟨[], 0, false⟩ b) ∧ zC ⟨[], false, .cells true⟩ 0 m 0 ⟨bCells b, true, .cells true⟩ = coB (fdB m ⟨[], 0, false⟩ b) ∧ zM ⟨[], false, .cells true⟩ 0 m 0 ⟨bCells b, true, .cells true⟩ = (fdL m ⟨[], 0, false⟩ b).length := z_all ⟨[], 0, false⟩ m b
theorem z_feed (r : Rd) (m : Int) (b : List UInt8) : zL ⟨bCells r.x, false, .cells true⟩ r.k m (scB r.bad) ⟨bCells b, true, .cells true⟩ = fdL m r b ∧ zX ⟨bCells r.x, false, .cells true⟩ r.k m (scB r.bad) ⟨bCells b, true, .cells true⟩ = (fdS m r b).x ∧ zK ⟨bCells r.x, false, .cells true⟩ r.k m (scB r.bad) ⟨bCells b, true, .cells true⟩ = (fdS m r b).k ∧ zN ⟨bCells r.x, false, .cells true⟩ r.k m (scB r.bad) ⟨bCells b, true, .cells true⟩ = (fdS m r b).x.length - (fdS m r b).k ∧ zB ⟨bCells r.x, false, .cells true⟩ r.k m (scB r.bad) ⟨bCells b, true, .cells true⟩ = scB (fdB m r b) ∧ zC ⟨bCells r.x, false, .cells true⟩ r.k m (scB r.bad) ⟨bCells b, true, .cells true⟩ = coB (fdB m r b) ∧ zM ⟨bCells r.x, false, .cells true⟩ r.k m (scB r.bad) ⟨bCells b, true, .cells true⟩ = (fdL m r b).length := z_all r m b
theorem ePut_ok : EntOk Try.prog ePut := entC_ok (by
  intro a rows p v news h hp
  split at h <;> simp only [Option.some.injEq, Prod.mk.injEq, reduceCtorEq] at h
  obtain ⟨rfl, rfl, rfl⟩ := h
  obtain ⟨⟨x, rfl, rfl⟩, ⟨y, rfl, rfl⟩, h3, h4⟩ := hp
  unfold zPn bRo
  rw [zP_mk]
  exact put_con x y _ _ _ h3 h4)
end Go.Proofs.Ytkeiogmapogpnaa.fe
