/- The law: two tables that are told the same are the same . -/
import Derived.Test.YtpfigiokmcojeaaSz9
import Derived.Test.YtpfigiokmcojeaaRows
import Derived.Test.YtpfigiokmcojeaaLtbH
import Derived.Test.YtpfigiokmcojeaaLwit
set_option linter.unusedSimpArgs false
set_option linter.unusedVariables false
namespace Go.Proofs.Ytpfigiokmcojeaa.tb
open Go Go.Ev Go.Sy Go.RowKit Go.Proofs.Ytpfigiokmcojeaa.gl Go.Proofs.Ytpfigiokmcojeaa.tk
structure Asx where
  k : Int
  n : Int
  f : Fl
def enA (a : Asx) : List Value := [.int .i64 a.k, .int .i64 a.n, .string (bs a.f.n), .string (bs a.f.v)]
noncomputable def eWiT : EntM := entC 24 fun a r => match a, r with
  | [.int .i64 n, .int .i64 lo, .int .i64 hi], [] => some (I64 n ∧ -1000000000000 ≤ lo ∧ hi ≤ 1000000000000 ∧ lo ≤ hi, .int .i64 (Go.Proofs.Ytpfigiokmcojeaa.tk.inside n lo hi), [])
  | _, _ => none
noncomputable def eRunsT : EntM := entC 3 fun a r => match a, r with
  | [], [] => some (True, .bool true, [])
  | _, _ => none
structure GTw2 where
  t : Tb
  l : List Asx
structure GTw where
  l : List Asx
  m : Int
noncomputable def tTw : List EntM := [eWiT, eRunsT, eAddT, eResT, eGetT]
noncomputable abbrev EtTw : Env := envT Try.prog tTw
theorem eWiT_ok : EntOk Try.prog eWiT := entC_ok (by
  intro a rows p v news h hp
  split at h <;> simp only [Option.some.injEq, Prod.mk.injEq, reduceCtorEq] at h
  obtain ⟨rfl, rfl, rfl⟩ := h
  exact Go.Proofs.Ytpfigiokmcojeaa.tk.within_con _ _ _ hp.1 hp.2.1 hp.2.2.1 hp.2.2.2)
theorem eRunsT_ok : EntOk Try.prog eRunsT := entC_ok (by
  intro a rows p v news h hp
  split at h <;> simp only [Option.some.injEq, Prod.mk.injEq, reduceCtorEq] at h
  obtain ⟨rfl, rfl, rfl⟩ := h
  exact con_run mixed (n := 1000000) (by kernel_rfl) (by kernel_rfl))
theorem tTw_ok : ∀ x ∈ tTw, EntOk Try.prog x := all_cons eWiT_ok (all_cons eRunsT_ok (all_cons eAddT_ok (all_cons eResT_ok (all_cons eGetT_ok (all_nil)))))
theorem asK (a : Asx) : (enA a).length = 4 := rfl
theorem asP (a : Asx) : Plain (enA a) := by intro v hv; simp [enA] at hv; rcases hv with rfl | rfl | rfl | rfl <;> rfl
theorem asPl (l : List Asx) : Plain (gC enA l) := gC_plain asP l
theorem cellI_ofT {l : List Value} {i : Nat} {k : IntKind} {n : Int} (h : l[i]? = some (.int k n)) : cellI l i = n := by unfold cellI; rw [h]
theorem asGet (l : List Asx) (i : Nat) (h : i < l.length) : (gC enA l)[i * 4]? = some (.int .i64 l[i].k) ∧ (gC enA l)[i * 4 + 1]? = some (.int .i64 l[i].n) ∧ (gC enA l)[i * 4 + 2]? = some (.string (bs l[i].f.n)) ∧ (gC enA l)[i * 4 + 2 + 1]? = some (.string (bs l[i].f.v)) ∧ cellI (gC enA l) (i * 4) = l[i].k ∧ cellI (gC enA l) (i * 4 + 1) = l[i].n ∧ cellS (gC enA l) (i * 4 + 2) = bs l[i].f.n ∧ cellS (gC enA l) (i * 4 + 2 + 1) = bs l[i].f.v := by
  have h0 := gC_get asK l i 0 h (by omega)
  have h1 := gC_get asK l i 1 h (by omega)
  have h2 := gC_get asK l i 2 h (by omega)
  have h3 := gC_get asK l i 3 h (by omega)
  exact ⟨h0, h1, h2, h3, cellI_ofT h0, cellI_ofT h1, cellS_of h2, cellS_of h3⟩
theorem isTb_mk (t : Tb) (h : Ok t) : IsTb ⟨gC enF (t.l ++ t.j), false, .cells true⟩ t.l.length ((smN t.l : Nat) : Int) := by
  obtain ⟨h1, h2, h3⟩ := h
  have := ok_len t.l
  exact ⟨t.l, t.j, rfl, rfl, rfl, by omega, by omega⟩
theorem q_ask {Q : Nat → Prop} {n : Nat} {cells : List Value} (h : ElemsQ Q [.i .i64, .i .i64, .s, .s] n cells) : ∃ l : List Asx, l.length = n ∧ cells = gC enA l ∧ ∀ a ∈ l, (I64 a.k ∧ I64 a.n) ∧ Q a.f.n.length ∧ Q a.f.v.length := by
  obtain ⟨l, h1, h2, h3⟩ := h.data (α := Asx) enA (fun a => (I64 a.k ∧ I64 a.n) ∧ Q a.f.n.length ∧ Q a.f.v.length) (fun c hc => by
    match c, hc with
    | [x, y, z, w], hc =>
      obtain ⟨c1, c2, c3, c4, _⟩ := hc
      obtain ⟨k, rfl, w1⟩ := cq_i c1
      obtain ⟨n, rfl, w2⟩ := cq_i c2
      obtain ⟨s, rfl, w3, b3⟩ := cq_s c3
      obtain ⟨t, rfl, w4, b4⟩ := cq_s c4
      exact ⟨⟨k, n, ⟨L s, L t⟩⟩, rfl, ⟨Sy.wf64 w1, Sy.wf64 w2⟩, b3, b4⟩)
  exact ⟨l, h1, h2, h3⟩
end Go.Proofs.Ytpfigiokmcojeaa.tb
