/- A reader of frames that is fed one whole DATA frame of stream 1: as a known call. -/
import Derived.Test.YtcallecdjebojaaGreatSz9
import Derived.Test.YtcallecdjebojaaGreatRows
import Derived.Test.YtcallecdjebojaaGreatLcpO
import Derived.Test.YtcallecdjebojaaGreatLfqc
import Derived.Test.YtcallecdjebojaaGreatLwit
set_option maxRecDepth 20000
set_option linter.unusedSimpArgs false
set_option linter.unusedVariables false
namespace Go.Proofs.YtcallecdjebojaaGreat.cg
open Go Go.Ev Go.Sy Go.RowKit Go.Proofs.YtcallecdjebojaaGreat.gl Go.Proofs.YtcallecdjebojaaGreat.tk Go.Proofs.YtcallecdjebojaaGreat.cp Go.Proofs.YtcallecdjebojaaGreat.s9 Go.Proofs.YtcallecdjebojaaGreat.fd Go.Proofs.YtcallecdjebojaaGreat.fe
noncomputable def yZ : Row → Nat := sealV fun r => gCode (bCells ((dB r).drop 9))
noncomputable def yP : Row → List UInt8 := sealV fun r => (dB r)
def HdR (fl : Nat) (r : Row) (nb : Nat) : Prop := ∃ p : List UInt8, r = bRo (headB p.length 0 fl 1 ++ p) ∧ nb = 9 + p.length ∧ p.length ≤ 16384
def IsO (r : Row) (k : Nat) : Prop := ∃ x : List UInt8, r = bOwn x ∧ x.length = k ∧ k ≤ 1000000
def frC (fl : Nat) (z n : Nat) : List Value := [.int .i64 0, .int .i64 fl, .int .i64 1, .slice (some ⟨z, 0, some 0⟩) n 1]
noncomputable def eFdD (fl : Nat) : EntM := (48, fun a r => match a, r with
  | [.pointer (some ⟨0, 0, none⟩), .slice (some ⟨1, 0, none⟩) nb 1], [⟨[.slice (some ⟨2, k, none⟩) n 1, .int .i64 m, .string st, .int .i64 sc, .int .i64 co, .int .i64 0], false, .cells false⟩, r2, r1] =>
    some (n = 0 ∧ m = 16384 ∧ st = ⟨#[]⟩ ∧ sc = 0 ∧ co = 0 ∧ IsO r1 k ∧ HdR fl r2 nb, .tuple ⟨[slc4 5 1, badV 0 0 0]⟩, 6,
      [(0, rdU 4 nb 0 16384 0 0), (4, bOwn (yP r2)), (5, ⟨frC fl (yZ r2) (nb - 9), false, .cells true⟩)])
  | _, _ => none)
theorem fed_one (fl : Nat) (hf : fl < 256) (x p : List UInt8) (hp : p.length ≤ 16384) : fdL 16384 ⟨x, x.length, false⟩ (headB p.length 0 fl 1 ++ p) = [⟨0, fl, 1, p⟩] ∧ fdB 16384 ⟨x, x.length, false⟩ (headB p.length 0 fl 1 ++ p) = false ∧ fdS 16384 ⟨x, x.length, false⟩ (headB p.length 0 fl 1 ++ p) = ⟨headB p.length 0 fl 1 ++ p, 9 + p.length, false⟩ := by
  have hl : (headB p.length 0 fl 1 ++ p).length = 9 + p.length := by rw [List.length_append]; rfl
  have hk : keeps ⟨x, x.length, false⟩ (headB p.length 0 fl 1 ++ p) = false := by unfold keeps; exact decide_eq_false (by simp only; omega)
  have ex : fdX ⟨x, x.length, false⟩ (headB p.length 0 fl 1 ++ p) = headB p.length 0 fl 1 ++ p := by unfold fdX; rw [if_neg (by simp [hk])]; simp
  have ek : fdK ⟨x, x.length, false⟩ (headB p.length 0 fl 1 ++ p) = 0 := by unfold fdK; rw [if_neg (by simp [hk])]
  have hr : run 16384 (9 + p.length) (headB p.length 0 fl 1 ++ (p ++ [])) = (⟨0, fl, 1, p⟩ :: (run 16384 (9 + p.length) []).1, 9 + p.length + (run 16384 (9 + p.length) []).2.1, (run 16384 (9 + p.length) []).2.2) :=
    run_one 16384 (9 + p.length) p [] 0 fl 1 (by omega) hf (by omega) (by omega) (by omega) (by
      show (headB p.length 0 fl 1 ++ (p ++ [])).length ≤ 9 + p.length
      rw [List.append_nil, hl]; exact Nat.le_refl _)
  rw [List.append_nil, run_nil] at hr
  have hR : fdR 16384 ⟨x, x.length, false⟩ (headB p.length 0 fl 1 ++ p) = ([⟨0, fl, 1, p⟩], 9 + p.length, false) := by
    unfold fdR; rw [ex, ek, hl, List.drop_zero]; exact hr
  unfold fdL fdB fdS
  rw [hR, ex, ek]
  simp
theorem eFdD_ok (fl : Nat) (hf : fl < 256) : EntOk Tryz.prog (eFdD fl) := by
  intro a rows q v n' rl h hp
  unfold eFdD at h
  simp only at h
  split at h
  · simp only [Option.some.injEq, Prod.mk.injEq] at h
    obtain ⟨rfl, rfl, rfl, rfl⟩ := h
    obtain ⟨rfl, rfl, rfl, rfl, rfl, ⟨x, rfl, rfl, hx⟩, ⟨p, hr, rfl, hpl⟩⟩ := hp
    rw [hr]
    have e1 : yP (bRo (headB p.length 0 fl 1 ++ p)) = headB p.length 0 fl 1 ++ p := by unfold yP; rw [sealV_eq, dB_ro]
    have e2 : yZ (bRo (headB p.length 0 fl 1 ++ p)) = gCode (bCells p) := by
      unfold yZ; rw [sealV_eq]; simp only [dB_ro]
      rw [show (9 : Nat) = (headB p.length 0 fl 1).length from rfl, List.drop_left]
    rw [e1, e2, Nat.add_sub_cancel_left]
    obtain ⟨f1, f2, f3⟩ := fed_one fl hf x p hpl
    have hl : (headB p.length 0 fl 1 ++ p).length = 9 + p.length := by rw [List.length_append]; rfl
    have hc := U_con ⟨x, x.length, false⟩ (headB p.length 0 fl 1 ++ p) 16384 ⟨Nat.le_refl _, fun h => by simp at h⟩ (by rw [hl]; simp only; omega)
    rw [f1, f2, f3, hl] at hc
    simp only [hl, Nat.sub_self] at hc
    exact hc
  · simp at h
end Go.Proofs.YtcallecdjebojaaGreat.cg
