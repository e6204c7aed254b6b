/- A closed call's contract, out of a run that is held against what is written down by a Bool. -/
import Derived.Test.YtcallecdjebojaaGreatSz9
import Derived.Test.YtcallecdjebojaaGreatRows
import Derived.Test.YtcallecdjebojaaGreatLcrK
set_option maxRecDepth 20000
set_option linter.unusedSimpArgs false
set_option linter.unusedVariables false
namespace Go.Proofs.YtcallecdjebojaaGreat.ck
noncomputable section
open Go Go.Ev Go.Sy Go.RowKit
def retB (n0 : Nat) (v : Value) (n' : Nat) (rl : List (Nat × Row)) (r : Ev.End × Hp) : Prop :=
  match r with
  | (.ret v1, h1) => need (Nat.ble n0 n' && (Nat.ble n' 1000000 && (okSt.go2 n' rl && mVb 12 (idAss n0) v v1 fun ρ => mRowsB h1.rows ρ rl fun ρ => ρ.below n' && apartIn ρ rl))) True
  | _ => False
theorem con_imp {E : Env} {M : FuncId → List Nat → Option Sy.Spec} {f : FuncId} {args : List Value} {rows : List Row} {v : Value} {n' n : Nat} {rl : List (Nat × Row)} {k : Ev.End × Hp → Prop} (hm : E.P.follows .mixedOrders = true) (ho : CallsOk E.P (oOf E)) (hL : LOk E) (hM : LMOk E rows.length M)
    (hk : ∀ r, k r → retIsM rows.length v n' rl r) (h : mcall E M n f args ⟨mkR (nums 0 rows), rows.length⟩ k) : ConM E.P f args rows v n' rl := by
  intro B μ w args' h1 h2 hw hargs hok
  refine (mcall_sound hm ho hL hM h h1 h2 hw hargs).mono ?_
  rintro e w' ⟨x1, h', μ', hkk, g1, g2, g3, g4⟩
  have hk := hk _ hkk
  simp only [retIsM] at hk
  obtain ⟨k1, hk⟩ := need_spec hk
  simp only [Bool.and_eq_true] at k1
  have k3 := Nat.le_of_ble_eq_true k1.1.2
  have k4 := go2_spec _ _ k1.2
  obtain ⟨ρ1, e1, i1, hk, r1⟩ := mEnd_sound (idAss_inj _) hk
  obtain ⟨ρ2, e2, i2, r2, hk⟩ := mRows_sound _ _ _ i1 hk
  obtain ⟨hb, _⟩ := need_spec hk
  rw [Bool.and_eq_true] at hb
  have hn9 : n' ≤ Tr.top := by unfold Tr.top; omega
  obtain ⟨q1, q2⟩ := WR.under (n' := n') g2 h1 hb.2 hb.1 hn9 (rl := rl) (fun p hp => ⟨by have := k4 p hp; unfold Tr.top; omega, r2 p hp⟩)
  exact ⟨_, muOf_le _ h2 (e1.trans e2) hb.1 hn9 g1, q1, ⟨g3.os, g3.tape, g3.output, g3.size, g3.block, fun b hb => g3.owns b (q2 b hb), fun z i b o s hm => g3.gnew z i b o s ((muOf_g _ hb.1 hn9 z i).symm.trans hm)⟩, r1 ρ2 e2 _ _ (muOf_here _) (muOf_gle _ hb.1 hn9) e g4⟩
theorem retB_ok {n0 n' : Nat} {v : Value} {rl : List (Nat × Row)} {r : Ev.End × Hp} (hv : noMark v = true) (h : retB n0 v n' rl r) : retIsM n0 v n' rl r := by
  obtain ⟨e, h1⟩ := r
  cases e with
  | pan c => exact h.elim
  | ret v1 =>
    simp only [retB] at h
    obtain ⟨hb, _⟩ := need_spec h
    simp only [Bool.and_eq_true] at hb
    obtain ⟨b1, b2, b3, b4⟩ := hb
    simp only [retIsM, b1, b2, b3, Bool.and_self, need, cond_true]
    have h2 : mV 12 (idAss n0) v v1 fun ρ => mRows h1.rows ρ rl fun ρ => need (ρ.below n' && apartIn ρ rl) True :=
      mVb_ok 12 _ _ _ (fun ρ => mRowsB h1.rows ρ rl fun ρ => ρ.below n' && apartIn ρ rl) _ (fun ρ h4 => mRowsB_ok _ _ _ _ (fun ρ h5 => by simp only [need, h5, cond_true]) h4) b4
    unfold mEnd
    split
    · simp [noMark] at hv
    · simp [noMark] at hv
    · exact h2
theorem conB {E : Env} {f : FuncId} {args : List Value} {rows : List Row} {v : Value} {n' n : Nat} {rl : List (Nat × Row)} {vc : Prop} (hm : E.P.follows .mixedOrders = true) (ho : CallsOk E.P (oOf E)) (hL : LOk E)
    (hvc : mcall E noM n f args ⟨mkR (nums 0 rows), rows.length⟩ (retB rows.length v n' rl) = vc) (h : vc) (hv : noMark v = true) : ConM E.P f args rows v n' rl := con_imp hm ho hL lm_none (fun _ h => retB_ok hv h) (hvc.mpr h)
end
end Go.Proofs.YtcallecdjebojaaGreat.ck
