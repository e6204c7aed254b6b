/- The program's reader and the document's, side by side: the mathematics. -/
import Derived.Test.YtkeiogmapogpnaaSz9
import Derived.Test.YtkeiogmapogpnaaRows
import Derived.Test.YtkeiogmapogpnaaLfh
set_option linter.unusedSimpArgs false
set_option linter.unusedVariables false
namespace Go.Proofs.Ytkeiogmapogpnaa.fe
open Go Go.Ev Go.Sy Go.RowKit Go.Proofs.Ytkeiogmapogpnaa.s9 Go.Proofs.Ytkeiogmapogpnaa.fd Go.Proofs.Ytkeiogmapogpnaa.gl
def QOk (q : Rq) : Prop := RdOk q.r ∧ (q.r.bad = false → q.c = 0)
def Rel (q w : Rq) : Prop := QOk q ∧ QOk w ∧ q.r.bad = w.r.bad ∧ q.c = w.c ∧ (q.r.bad = false → lf q.r = lf w.r ∧ q.s = w.s ∧ (q.s ≠ [] → lf q.r = []))
def fqN (m : Int) (q : Rq) (b : List UInt8) : Rq := ⟨fqS m q b, fqT m q b, fqC m q b⟩
noncomputable def dqN (m : Int) (q : Rq) (b : List UInt8) : Rq := ⟨dqS m q b, dqT m q b, dqC m q b⟩
theorem fq_bad (m : Int) (q : Rq) (b : List UInt8) : (fqS m q b).bad = fqB m q b := by
  unfold fqS fqB
  cases h : q.r.bad with
  | true => simp [h]
  | false =>
    cases h2 : okP q.s b with
    | false => simp
    | true =>
      simp only [Bool.false_eq_true, if_false, if_true, Bool.not_true, Bool.false_or]
      unfold fdS fdB
      rw [h]
      cases h3 : (fdR m q.r (b.drop (mn q.s b))).2.2 <;> simp [h3]
theorem dq_bad (m : Int) (q : Rq) (b : List UInt8) : (dqS m q b).bad = dqB m q b := by
  unfold dqS dqB
  cases h : q.r.bad with
  | true => simp [h]
  | false =>
    cases h2 : dqO q b with
    | false => simp
    | true => cases h3 : (dqR m q b).2.2 <;> simp
theorem rel_step {m : Int} {q w : Rq} (h : Rel q w) (b : List UInt8) :
    fqL m q b = dqL m w b ∧ fqB m q b = dqB m w b ∧ fqC m q b = dqC m w b ∧ Rel (fqN m q b) (dqN m w b) ∧
    (fqS m q b).x.length - (fqS m q b).k = (dqS m w b).x.length - (dqS m w b).k ∧
    (fqS m q b).x.length ≤ q.r.x.length + b.length ∧ (dqS m w b).x.length ≤ w.r.x.length + b.length ∧
    (fqL m q b).length ≤ q.r.x.length + b.length ∧ ∀ f ∈ fqL m q b, f.p.length ≤ q.r.x.length + b.length := by
  obtain ⟨⟨⟨a1, a2⟩, a3⟩, ⟨⟨b1, b2⟩, b3⟩, hbd, hcd, hr⟩ := h
  cases hq : q.r.bad with
  | true =>
    have hw : w.r.bad = true := by rw [← hbd, hq]
    have e1 : fqL m q b = [] := by unfold fqL; rw [if_pos hq]
    have e2 : fqS m q b = q.r := by unfold fqS; rw [if_pos hq]
    have e3 : fqB m q b = true := by unfold fqB; rw [hq]; rfl
    have e4 : fqT m q b = q.s := by unfold fqT; rw [if_pos hq]
    have e5 : fqC m q b = q.c := by unfold fqC; rw [if_pos hq]
    have d1 : dqL m w b = [] := by unfold dqL; rw [if_pos hw]
    have d2 : dqS m w b = w.r := by unfold dqS; rw [if_pos hw]
    have d3 : dqB m w b = true := by unfold dqB; rw [hw]; rfl
    have d4 : dqT m w b = w.s := by unfold dqT; rw [if_pos hw]
    have d5 : dqC m w b = w.c := by unfold dqC; rw [if_pos hw]
    unfold fqN dqN
    rw [e1, e2, e3, e4, e5, d1, d2, d3, d4, d5]
    refine ⟨rfl, rfl, hcd, ⟨⟨⟨a1, a2⟩, a3⟩, ⟨⟨b1, b2⟩, b3⟩, hbd, hcd, hr⟩, ?_, by omega, by omega, by simp, fun f hf => by simp at hf⟩
    rw [a2 hq, b2 hw]; simp
  | false =>
    have hw : w.r.bad = false := by rw [← hbd, hq]
    obtain ⟨r1, r2, r3⟩ := hr hq
    have hlw : w.r.x.drop w.r.k = lf w.r := rfl
    have hY : dqY w b = lf q.r ++ b := by unfold dqY; rw [hlw, r1]
    have hO : dqO w b = okP q.s b := by
      unfold dqO; rw [hY, ← r2]
      by_cases hs : q.s = []
      · rw [hs]; unfold okP mn; simp only [List.length_nil, Nat.zero_min]
        have : ∀ y : List UInt8, agr [] y 0 := fun y i hi => absurd hi (Nat.not_lt_zero _)
        rw [decide_eq_true (this _), decide_eq_true (this _)]
      · rw [r3 hs, List.nil_append]
    have hJ : (dqY w b).drop (dqJ w b) = lf q.r ++ b.drop (mn q.s b) ∧ dqJ w b ≤ (dqY w b).length ∧ q.s.drop (dqJ w b) = q.s.drop (mn q.s b) := by
      unfold dqJ; rw [hY, ← r2]
      by_cases hs : q.s = []
      · rw [hs]; unfold mn; simp
      · rw [r3 hs, List.nil_append]
        exact ⟨rfl, by unfold mn; omega, rfl⟩
    obtain ⟨j1, j2, j3⟩ := hJ
    cases hok : okP q.s b with
    | false =>
      have hok2 : dqO w b = false := by rw [hO, hok]
      have e1 : fqL m q b = [] := by unfold fqL; rw [if_neg (by simp [hq]), if_neg (by simp [hok])]
      have e2 : fqS m q b = ⟨[], 0, true⟩ := by unfold fqS; rw [if_neg (by simp [hq]), if_neg (by simp [hok])]
      have e3 : fqB m q b = true := by unfold fqB; rw [hok]; simp
      have e5 : fqC m q b = 1 := by unfold fqC; rw [if_neg (by simp [hq]), if_neg (by simp [hok])]
      have d1 : dqL m w b = [] := by unfold dqL; rw [if_neg (by simp [hw]), if_neg (by simp [hok2])]
      have d2 : dqS m w b = ⟨[], 0, true⟩ := by unfold dqS; rw [if_neg (by simp [hw]), if_neg (by simp [hok2])]
      have d3 : dqB m w b = true := by unfold dqB; rw [hok2]; simp
      have d5 : dqC m w b = 1 := by unfold dqC; rw [if_neg (by simp [hw]), if_neg (by simp [hok2])]
      unfold fqN dqN
      rw [e1, e2, e3, e5, d1, d2, d3, d5]
      exact ⟨rfl, rfl, rfl, ⟨⟨⟨Nat.le_refl _, fun _ => rfl⟩, fun h => by simp at h⟩, ⟨⟨Nat.le_refl _, fun _ => rfl⟩, fun h => by simp at h⟩, rfl, rfl, fun h => by simp at h⟩, rfl, Nat.zero_le _, Nat.zero_le _, Nat.zero_le _, fun f hf => by simp at hf⟩
    | true =>
      have hok2 : dqO w b = true := by rw [hO, hok]
      obtain ⟨b', hb'⟩ : ∃ b', b' = b.drop (mn q.s b) := ⟨_, rfl⟩
      have hbl : b'.length ≤ b.length := by rw [hb', List.length_drop]; omega
      obtain ⟨N, hN⟩ : ∃ N, N = q.r.x.length + w.r.x.length + b.length := ⟨_, rfl⟩
      have hll : (lf q.r).length = q.r.x.length - q.r.k := by unfold lf; rw [List.length_drop]
      have hll2 : (lf q.r).length = w.r.x.length - w.r.k := by rw [r1]; unfold lf; rw [List.length_drop]
      have hR : fdR m q.r b' = run m N (lf q.r ++ b') := fdR_run m q.r b' a1 (by rw [List.length_append]; omega)
      have hD : dqR m w b = run m N (lf q.r ++ b') := by
        unfold dqR runS
        rw [j1, ← hb', ← r2, j3]
        by_cases hs : (q.s.drop (mn q.s b)).length = 0
        · rw [if_pos hs]
          refine run_fuel m _ _ ?_ _ ?_
          · have := congrArg List.length j1
            rw [List.length_drop, ← hb'] at this
            omega
          · rw [List.length_append]; omega
        · rw [if_neg hs]
          have hsn : q.s ≠ [] := fun e => by rw [e] at hs; simp at hs
          have hbn : b' = [] := by
            rw [hb']; apply List.drop_eq_nil_of_le
            rw [List.length_drop] at hs
            unfold mn at hs ⊢; omega
          rw [r3 hsn, hbn, List.append_nil, run_nil]
      obtain ⟨g1, g2, g3, g4⟩ := fd_left q.r b' a1
      have hle := run_le m N (lf q.r ++ b')
      have hp := run_p m N (lf q.r ++ b')
      rw [List.length_append] at hle hp
      have e1 : fqL m q b = (run m N (lf q.r ++ b')).1 := by unfold fqL fdL; rw [if_neg (by simp [hq]), if_pos hok, ← hb', if_neg (by simp [hq]), hR]
      have d1 : dqL m w b = (run m N (lf q.r ++ b')).1 := by unfold dqL; rw [if_neg (by simp [hw]), if_pos hok2, hD]
      have e3 : fqB m q b = (run m N (lf q.r ++ b')).2.2 := by unfold fqB fdB; rw [hok, hq, ← hb', hR]; simp
      have d3 : dqB m w b = (run m N (lf q.r ++ b')).2.2 := by unfold dqB; rw [hok2, hw, hD]; simp
      have e5 : fqC m q b = coB (run m N (lf q.r ++ b')).2.2 := by unfold fqC fdB; rw [if_neg (by simp [hq]), if_pos hok, ← hb', hR, hq]; simp
      have d5 : dqC m w b = coB (run m N (lf q.r ++ b')).2.2 := by unfold dqC; rw [if_neg (by simp [hw]), if_pos hok2, hD]
      have e4 : fqT m q b = if (run m N (lf q.r ++ b')).2.2 then [] else q.s.drop (mn q.s b) := by
        unfold fqT fdB; rw [if_neg (by simp [hq]), if_pos hok, ← hb', hR, hq]; simp
      have d4 : dqT m w b = q.s.drop (mn q.s b) := by unfold dqT; rw [if_neg (by simp [hw]), if_pos hok2, ← r2, j3]
      have e2 : fqS m q b = if (run m N (lf q.r ++ b')).2.2 then ⟨[], 0, true⟩ else ⟨fdX q.r b', fdK q.r b' + (run m N (lf q.r ++ b')).2.1, false⟩ := by
        unfold fqS fdS; rw [if_neg (by simp [hq]), if_pos hok, ← hb', if_neg (by simp [hq]), hR]
      have d2 : dqS m w b = if (run m N (lf q.r ++ b')).2.2 then ⟨[], 0, true⟩ else ⟨dqY w b, dqJ w b + (run m N (lf q.r ++ b')).2.1, false⟩ := by
        unfold dqS; rw [if_neg (by simp [hw]), if_pos hok2, hD]
      unfold fqN dqN
      rw [e1, e2, e3, e4, e5, d1, d2, d3, d4, d5]
      have hYl : (dqY w b).length = (lf q.r).length + b.length := by rw [hY, List.length_append]
      cases hB : (run m N (lf q.r ++ b')).2.2 with
      | true =>
        simp only [if_true]
        exact ⟨trivial, trivial, trivial, ⟨⟨⟨Nat.le_refl _, fun _ => rfl⟩, fun h => by simp at h⟩, ⟨⟨Nat.le_refl _, fun _ => rfl⟩, fun h => by simp at h⟩, rfl, rfl, fun h => by simp at h⟩, trivial, Nat.zero_le _, Nat.zero_le _, by omega, fun f hf => by have := hp f hf; omega⟩
      | false =>
        simp only [Bool.false_eq_true, if_false]
        have gl := congrArg List.length g1
        rw [List.length_drop, List.length_append] at gl
        have jl := congrArg List.length j1
        rw [List.length_drop, List.length_append, ← hb'] at jl
        refine ⟨trivial, trivial, trivial, ⟨⟨⟨by simp only; omega, fun h => by simp at h⟩, fun _ => rfl⟩, ⟨⟨by simp only; omega, fun h => by simp at h⟩, fun _ => rfl⟩, rfl, rfl, fun _ => ⟨?_, rfl, fun hs => ?_⟩⟩, by omega, by rcases g4 with g4 | g4 <;> (try rw [List.length_append] at g4) <;> omega, by omega, by omega, fun f hf => by have := hp f hf; omega⟩
        · unfold lf; simp only
          rw [← List.drop_drop, g1, ← List.drop_drop, j1, ← hb']
        · have hsn : q.s ≠ [] := fun e => by rw [e] at hs; simp at hs
          have hbn : b' = [] := by
            have hs0 : (q.s.drop (mn q.s b)).length ≠ 0 := fun e => hs (List.eq_nil_of_length_eq_zero e)
            rw [hb']; apply List.drop_eq_nil_of_le
            rw [List.length_drop] at hs0
            unfold mn at hs0 ⊢; omega
          unfold lf; simp only
          rw [← List.drop_drop, g1, r3 hsn, hbn]; simp
end Go.Proofs.Ytkeiogmapogpnaa.fe
