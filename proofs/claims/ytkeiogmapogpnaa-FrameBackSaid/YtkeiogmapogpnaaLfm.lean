/- Bytes that come in parts: the mathematics of a reader. -/
import Derived.Test.YtkeiogmapogpnaaSz9
import Derived.Test.YtkeiogmapogpnaaRows
import Derived.Test.YtkeiogmapogpnaaLfp
set_option linter.unusedSimpArgs false
set_option linter.unusedVariables false
namespace Go.Proofs.Ytkeiogmapogpnaa.fe
open Go Go.Ev Go.Sy Go.RowKit Go.Proofs.Ytkeiogmapogpnaa.s9 Go.Proofs.Ytkeiogmapogpnaa.fd Go.Proofs.Ytkeiogmapogpnaa.gl
def lf (r : Rd) : List UInt8 := r.x.drop r.k
noncomputable def toG (a : Bf) : Gf := ⟨a.t, a.f, a.s, gCode (bCells a.p), 0, a.p.length⟩
theorem bt_app2 {y z : List UInt8} {i : Nat} (h : i < y.length) : bt (y ++ z) i = bt y i := bt_app h
theorem run_app (m : Int) (N : Nat) (z : List UInt8) : ∀ (n : Nat) (y : List UInt8), y.length ≤ n → (y ++ z).length ≤ N →
    run m N (y ++ z) = if (run m N y).2.2 then run m N y else ((run m N y).1 ++ (run m N (y.drop (run m N y).2.1 ++ z)).1, (run m N y).2.1 + (run m N (y.drop (run m N y).2.1 ++ z)).2.1, (run m N (y.drop (run m N y).2.1 ++ z)).2.2) := by
  intro n
  induction n with
  | zero =>
    intro y hy hN
    have : y = [] := List.eq_nil_of_length_eq_zero (by omega)
    subst this
    rw [run_nil]; simp
  | succ n ih =>
    intro y hy hN
    have hN2 : y.length ≤ N := by rw [List.length_append] at hN; omega
    have hy2 := run_step m hN2
    by_cases h9 : y.length < 9
    · rw [if_pos h9] at hy2; rw [hy2]; simp
    · have hl : lenF (y ++ z) = lenF y := by unfold lenF; rw [bt_app2 (by omega), bt_app2 (by omega), bt_app2 (by omega)]
      have hs : strF (y ++ z) = strF y := by unfold strF; rw [bt_app2 (by omega), bt_app2 (by omega), bt_app2 (by omega), bt_app2 (by omega)]
      rw [if_neg h9] at hy2
      by_cases hm : (lenF y : Int) > m
      · rw [if_pos hm] at hy2
        rw [hy2, run_step m hN, hl, if_neg (by rw [List.length_append]; omega), if_pos hm]; simp
      · rw [if_neg hm] at hy2
        by_cases hlen : y.length < 9 + lenF y
        · rw [if_pos hlen] at hy2; rw [hy2]; simp
        · rw [if_neg hlen] at hy2
          have hd : (y ++ z).drop (9 + lenF y) = y.drop (9 + lenF y) ++ z := List.drop_append_of_le_length (by omega)
          have hf : fr1 (y ++ z) = fr1 y := by
            unfold fr1
            rw [hl, hs, bt_app2 (by omega), bt_app2 (by omega), List.take_append_of_le_length (by omega)]
          have h := ih (y.drop (9 + lenF y)) (by rw [List.length_drop]; omega) (by rw [List.length_append, List.length_drop] at *; omega)
          rw [hy2, run_step m hN, hl, if_neg (by rw [List.length_append]; omega), if_neg hm, if_neg (by rw [List.length_append]; omega), hd, hf, h]
          generalize run m N (y.drop (9 + lenF y)) = R
          obtain ⟨r1, r2, r3⟩ := R
          simp only [List.drop_drop]
          cases r3
          · simp only [Bool.false_eq_true, if_false, List.cons_append, Prod.mk.injEq, true_and, and_true]; omega
          · simp only [if_true]
theorem fd_left (r : Rd) (p : List UInt8) (h : r.k ≤ r.x.length) : (fdX r p).drop (fdK r p) = lf r ++ p ∧ (lf r ++ p).length ≤ (fdX r p).length ∧ fdK r p ≤ (fdX r p).length ∧ ((fdX r p).length ≤ r.x.length ∨ (fdX r p).length ≤ (lf r ++ p).length) := by
  unfold lf
  have hl : (r.x.drop r.k ++ p).length = r.x.length - r.k + p.length := by rw [List.length_append, List.length_drop]
  cases hk : keeps r p with
  | true =>
    have h' : r.x.length ≠ 0 ∧ r.x.length - r.k + p.length = 0 := by unfold keeps at hk; exact of_decide_eq_true hk
    have hp : p = [] := List.eq_nil_of_length_eq_zero (by omega)
    have ex : fdX r p = r.x := by unfold fdX; rw [if_pos hk]
    have ek : fdK r p = r.k := by unfold fdK; rw [if_pos hk]
    rw [ex, ek, hl, hp]
    exact ⟨by simp, by simp only [List.length_nil]; omega, h, .inl (Nat.le_refl _)⟩
  | false =>
    have ex : fdX r p = r.x.drop r.k ++ p := by unfold fdX; rw [if_neg (by simp [hk])]
    have ek : fdK r p = 0 := by unfold fdK; rw [if_neg (by simp [hk])]
    rw [ex, ek]
    exact ⟨rfl, Nat.le_refl _, Nat.zero_le _, .inr (Nat.le_refl _)⟩
theorem fdR_run (m : Int) (r : Rd) (p : List UInt8) (h : r.k ≤ r.x.length) {N : Nat} (hN : (lf r ++ p).length ≤ N) : fdR m r p = run m N (lf r ++ p) := by
  obtain ⟨h1, h2, _⟩ := fd_left r p h
  unfold fdR
  rw [h1]; exact run_fuel m _ _ h2 _ hN
def Fed (m : Int) (y : List UInt8) (r : Rd) (l : List Bf) : Prop :=
  RdOk r ∧ r.x.length ≤ y.length ∧ (∀ N, y.length ≤ N → r.bad = (run m N y).2.2 ∧ l = (run m N y).1 ∧ (r.bad = false → lf r = y.drop (run m N y).2.1))
theorem fed_nil (m : Int) : Fed m [] ⟨[], 0, false⟩ [] := ⟨⟨Nat.le_refl _, fun _ => rfl⟩, Nat.le_refl _, fun N _ => by rw [run_nil]; exact ⟨rfl, rfl, fun _ => rfl⟩⟩
theorem fed_more {m : Int} {y p : List UInt8} {r : Rd} {l : List Bf} (h : Fed m y r l) : Fed m (y ++ p) (fdS m r p) (l ++ fdL m r p) ∧ (fdS m r p).bad = fdB m r p := by
  obtain ⟨⟨h1, h2⟩, h3, h4⟩ := h
  cases hb : r.bad with
  | true =>
    have e1 : fdL m r p = [] := by unfold fdL; rw [if_pos hb]
    have e2 : fdS m r p = r := by unfold fdS; rw [if_pos hb]
    have e3 : fdB m r p = true := by unfold fdB; rw [hb]; rfl
    rw [e1, e2, e3, List.append_nil]
    refine ⟨⟨⟨h1, h2⟩, by rw [List.length_append]; omega, fun N hN => ?_⟩, hb⟩
    have hN2 : y.length ≤ N := by rw [List.length_append] at hN; omega
    obtain ⟨k1, k2, _⟩ := h4 N hN2
    have hy : (run m N y).2.2 = true := by rw [← k1, hb]
    rw [run_app m N p y.length y (Nat.le_refl _) hN, if_pos hy]
    exact ⟨k1, k2, fun h => by rw [hb] at h; simp at h⟩
  | false =>
    obtain ⟨g1, g2, g3, g4⟩ := fd_left r p h1
    have hlf : (lf r).length ≤ y.length := by unfold lf; rw [List.length_drop]; omega
    have hR : ∀ N, (y ++ p).length ≤ N → fdR m r p = run m N (lf r ++ p) := fun N hN => fdR_run m r p h1 (by rw [List.length_append] at *; omega)
    have e1 : fdL m r p = (fdR m r p).1 := by unfold fdL; rw [if_neg (by simp [hb])]
    have e3 : fdB m r p = (fdR m r p).2.2 := by unfold fdB; rw [hb]; rfl
    have e2 : fdS m r p = if (fdR m r p).2.2 then ⟨[], 0, true⟩ else ⟨fdX r p, fdK r p + (fdR m r p).2.1, false⟩ := by unfold fdS; rw [if_neg (by simp [hb])]
    have hle := run_le m (fdX r p).length ((fdX r p).drop (fdK r p))
    have hle2 : (fdR m r p).2.1 ≤ ((fdX r p).drop (fdK r p)).length := hle.1
    rw [List.length_drop] at hle2
    have main : ∀ N, (y ++ p).length ≤ N → run m N (y ++ p) = (l ++ (fdR m r p).1, (run m N y).2.1 + (fdR m r p).2.1, (fdR m r p).2.2) := by
      intro N hN
      have hN2 : y.length ≤ N := by rw [List.length_append] at hN; omega
      obtain ⟨k1, k2, k3⟩ := h4 N hN2
      have hy : ¬ (run m N y).2.2 = true := by rw [← k1, hb]; simp
      rw [run_app m N p y.length y (Nat.le_refl _) hN, if_neg hy, ← k3 hb, ← hR N hN, ← k2]
    cases hB : (fdR m r p).2.2 with
    | true =>
      rw [hB] at e2 e3 main
      simp only [if_true] at e2
      rw [e1, e2, e3]
      refine ⟨⟨⟨Nat.le_refl _, fun _ => rfl⟩, Nat.zero_le _, fun N hN => ?_⟩, rfl⟩
      rw [main N hN]
      exact ⟨rfl, rfl, fun h => by simp at h⟩
    | false =>
      rw [hB] at e2 e3 main
      simp only [Bool.false_eq_true, if_false] at e2
      rw [e1, e2, e3]
      refine ⟨⟨⟨by simp only; omega, fun h => by simp at h⟩, by simp only; rw [List.length_append] at *; rcases g4 with g4 | g4 <;> omega, fun N hN => ?_⟩, rfl⟩
      have hN2 : y.length ≤ N := by rw [List.length_append] at hN; omega
      rw [main N hN]
      refine ⟨rfl, rfl, fun _ => ?_⟩
      have hc := (run_le m N y).1
      unfold lf
      simp only
      rw [← List.drop_drop, g1, (h4 N hN2).2.2 hb, ← List.drop_append_of_le_length hc, List.drop_drop]
theorem enG_toG (l : List Bf) : gC enG l = gC enH (l.map toG) := by
  induction l with
  | nil => rfl
  | cons a l ih => rw [List.map_cons, gC_cons, gC_cons, ih]; rfl
theorem toG_ok {a : Bf} (h : a.p.length ≤ 16777216) : FOk (toG a) := by
  have hz : gCells (gCode (bCells a.p)) = bCells a.p := gCells_code (bCells_g _)
  refine ⟨a.p, ?_, rfl, h, ?_⟩
  · unfold toG; simp only; rw [hz, List.drop_zero, List.take_of_length_le (by rw [bCells_len]; exact Nat.le_refl _)]
  · unfold toG; simp only; rw [hz, bCells_len]; omega
theorem isF_mk {l : List Bf} {n : Nat} (hn : n = l.length) (h : ∀ f ∈ l, f.p.length ≤ 16777216) : IsF ⟨gC enG l, true, .cells true⟩ n :=
  ⟨l.map toG, by rw [enG_toG]; rfl, by rw [List.length_map]; exact hn, fun x hx => by obtain ⟨a, ha, rfl⟩ := List.mem_map.1 hx; exact toG_ok (h a ha)⟩
end Go.Proofs.Ytkeiogmapogpnaa.fe
