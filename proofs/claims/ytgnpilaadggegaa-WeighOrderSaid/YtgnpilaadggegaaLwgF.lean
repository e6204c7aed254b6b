/- Facts on made clean, in seconds, held against each other. -/
import Derived.Test.YtgnpilaadggegaaSz9
import Derived.Test.YtgnpilaadggegaaRows
import Derived.Test.YtgnpilaadggegaaLflw
set_option linter.unusedSimpArgs false
set_option linter.unusedVariables false
namespace Go.Proofs.Ytgnpilaadggegaa.fl
open Go Go.Ev Go.Sy Ieee
theorem p2i' (k : Nat) : 0 < (p2 k : Int) := Int.natCast_pos.2 (p2_pos k)
theorem nan_fv' {b : Nat} (h : nn b = true) : fv b = 0 := by
  rw [nn_rd] at h
  unfold fv
  cases e : rd b with
  | nan => rfl
  | _ => rw [e] at h; simp [Datum.isNaN] at h
theorem cl_nan {b : Nat} (h : nn b = true) : cl b = 0 := by unfold cl; rw [if_neg (fun c => by rw [h] at c; simp at c)]
theorem sec_nan {b : Nat} (h : nn b = true) : sec b = 0 := by unfold sec; rw [if_neg (fun c => by rw [h] at c; simp at c)]
theorem rk_cases (b : Nat) : (nn b = true ∧ rk b = 0 ∧ fv b = 0) ∨ (nn b = false ∧ ((fv b < 0 ∧ rk b = 1) ∨ (0 < fv b ∧ rk b = 4) ∨ (fv b = 0 ∧ (rk b = 2 ∨ rk b = 3)))) := by
  cases h : nn b with
  | true => exact .inl ⟨rfl, by unfold rk; rw [if_pos h], nan_fv' h⟩
  | false =>
    refine .inr ⟨rfl, ?_⟩
    unfold rk
    rw [h]
    rcases Int.lt_trichotomy (fv b) 0 with c | c | c
    · exact .inl ⟨c, by simp [c]⟩
    · refine .inr (.inr ⟨c, ?_⟩)
      rw [if_neg (by simp), if_neg (by omega), if_neg (by omega)]
      cases sg b
      · exact .inr (if_neg (by simp))
      · exact .inl (if_pos rfl)
    · exact .inr (.inl ⟨c, by rw [if_neg (by simp), if_neg (by omega), if_pos c]⟩)
theorem ck_le {a b : Nat} (h : ck a b ≤ 0) : nn a = true ∨ (nn b = false ∧ fv a ≤ fv b) := by
  have ha := rk_cases a
  have hb := rk_cases b
  unfold ck at h
  rcases ha with ha | ha
  · exact .inl ha.1
  · refine .inr ?_
    split at h
    · rcases hb with hb | hb
      · omega
      · exact ⟨hb.1, by omega⟩
    · split at h
      · omega
      · rcases hb with hb | hb
        · omega
        · exact ⟨hb.1, by omega⟩
theorem ck_gt {a b : Nat} (h : 0 < ck a b) : ck b a ≤ 0 := by
  unfold ck at *
  split at h
  · omega
  · split at h
    · rename_i h2
      rw [if_pos (by omega)]; omega
    · omega
theorem cl_le {a b : Nat} (h : ck a b ≤ 0) : fv (cl a) ≤ fv (cl b) := by
  rcases ck_le h with h | h
  · rw [cl_nan h, fv0]
    obtain ⟨⟨m, i, e⟩, _⟩ := cl_unit b
    exact nonneg_num e
  · exact cl_mono h.2 h.1
theorem sec_le {a b : Nat} (h : ck a b ≤ 0) : sec a ≤ sec b := by
  rcases ck_le h with h | h
  · rw [sec_nan h]; exact (sec_in b).1
  · exact sec_mono h.2 h.1
theorem sec_near (k : Int) (h0 : 0 ≤ k) (h1 : k ≤ 2147483647) : sec (FloatKind.f64.nearest k) = k := by
  obtain ⟨e, m, i, n⟩ := near_int k h0 (by omega)
  have hp := p2i' 1074
  unfold sec
  rw [num_nn n, e]
  generalize (p2 1074 : Int) = x at *
  by_cases hk : k = 0
  · subst hk; simp
  · have h2 : 0 < k * x := Int.mul_pos (by omega) hp
    rw [if_pos ⟨rfl, h2⟩]
    by_cases h3 : k = 2147483647
    · subst h3; rw [if_pos (Int.le_refl _)]
    · have h4 : k * x < 2147483647 * x := Int.mul_lt_mul_of_pos_right (by omega) hp
      rw [if_neg (by omega), Int.mul_ediv_cancel _ (by omega)]
theorem cl_one : cl one = one := by
  have hp := p2i' 1074
  unfold cl
  rw [nn1, fv1]
  generalize (p2 1074 : Int) = x at *
  rw [if_pos ⟨rfl, hp⟩, if_neg (by omega)]
theorem cl_zero : cl 0 = 0 := by
  unfold cl
  rw [fv0, if_neg (by omega)]
theorem cl_idem (b : Nat) : cl (cl b) = cl b := by
  by_cases h : nn b = false ∧ 0 < fv b
  · by_cases h2 : (p2 1074 : Int) < fv b
    · have e : cl b = one := by unfold cl; rw [if_pos h, if_pos h2]
      rw [e, cl_one]
    · have e : cl b = b := by unfold cl; rw [if_pos h, if_neg h2]
      rw [e, e]
  · have e : cl b = 0 := by unfold cl; rw [if_neg h]
    rw [e, cl_zero]
/-- A word from one up to infinity. -/
theorem word_pos (w : Nat) (h0 : 0 < w) (h1 : w ≤ 9218868437227405312) : nn w = false ∧ 0 < fv w := by
  have h2 : w / 9223372036854775808 = 0 := Nat.div_eq_of_lt (by omega)
  have h3 : w % 9223372036854775808 = w := Nat.mod_eq_of_lt (by omega)
  have hn : ((0 : Nat) % 2 == 1) = false := rfl
  have key : (∃ m i, 0 < m ∧ rd w = .number false m i) ∨ rd w = .infinity false := by
    unfold rd Format.read
    simp only [binade_eq, inf_eq, sw_eq, lp_eq, h2, h3, hn]
    split
    · exact .inl ⟨w, _, h0, rfl⟩
    · split
      · exact .inl ⟨_, _, by omega, rfl⟩
      · rw [if_pos (by omega)]; exact .inr rfl
  rcases key with ⟨m, i, hm, e⟩ | e
  · refine ⟨num_nn e, ?_⟩
    rw [fv_num e]
    exact Int.natCast_pos.2 (Nat.mul_pos hm (p2_pos _))
  · refine ⟨by rw [nn_rd, e]; rfl, ?_⟩
    unfold fv
    rw [e]
    exact p2i' 2200
theorem near_pos (mag : Nat) (place : Int) (hp : -3000 ≤ place) (h0 : mag ≠ 0) (hS : p2 1926 ≤ Sc mag place) : nn (double.nearest false mag place) = false ∧ 0 < fv (double.nearest false mag place) := by
  rw [nearest_S mag place hp h0]
  have hK : 1 ≤ Kk (Sc mag place) := by
    rcases Nat.eq_zero_or_pos (Ee (Sc mag place)) with h | h
    · unfold Kk
      rw [h]
      refine R_ge ?_
      rw [Nat.zero_add, Nat.one_mul]; exact hS
    · have := K_lo h
      have z := p2_pos 52
      omega
  exact word_pos _ (by omega) (Nat.min_le_right _ _)
/-- One, divided by a number from zero to one. -/
theorem inv_unit {y : Nat} (hy : Unit01 y) : ∃ r, fA .quo .f64 4607182418800017408 y = some r ∧ nn r = false ∧ 0 < fv r := by
  obtain ⟨⟨n, j, e⟩, h1⟩ := hy
  have hf : Fin (rd y) := rd_fin y
  rw [e] at hf
  obtain ⟨f1, f2, f3⟩ := hf
  have e0 : fA .quo .f64 4607182418800017408 y = ((rd one).quotient 54 (rd y)).map double.write := rfl
  rw [e0, rd1, e]
  unfold Datum.quotient
  simp only
  by_cases hn : n = 0
  · subst hn
    rw [if_pos rfl, if_neg (by decide)]
    refine ⟨_, rfl, ?_⟩
    have e3 : rd (double.write (.infinity (false ^^ false))) = .infinity false := by decide
    refine ⟨by rw [nn_rd, e3]; rfl, ?_⟩
    unfold fv
    rw [e3]
    exact p2i' 2200
  · rw [if_neg hn]
    refine ⟨_, rfl, ?_⟩
    have l1 : (4503599627370496 : Nat).log2 = 52 := by decide
    rw [l1]
    have hl := log_le hn
    have hl2 := log_lt n
    have h53 : n.log2 < 53 := (Nat.log2_lt hn).2 f3
    -- the number is one at most
    have hj : n.log2 + (j + 1074).toNat ≤ 1074 := by
      rw [fv_num e] at h1
      have h2 : n * p2 (j + 1074).toNat ≤ p2 1074 := Int.ofNat_le.1 h1
      have h3 : p2 (n.log2 + (j + 1074).toNat) ≤ p2 1074 := by
        rw [p2_add]; exact Nat.le_trans (Nat.mul_le_mul_right _ hl) h2
      rcases Nat.lt_or_ge 1074 (n.log2 + (j + 1074).toNat) with c | c
      · have := p2_lt c; omega
      · exact c
    generalize hm : (54 + n.log2 - 52 : Nat) = more
    have hq : p2 53 ≤ 4503599627370496 <<< more / n := by
      rw [Nat.le_div_iff_mul_le (by omega), Nat.shiftLeft_eq]
      have z : (4503599627370496 : Nat) = p2 52 := by unfold p2; rfl
      have z2 : (2 ^ more : Nat) = p2 more := rfl
      rw [z, z2, ← p2_add]
      calc p2 53 * n ≤ p2 53 * p2 (n.log2 + 1) := Nat.mul_le_mul_left _ (Nat.le_of_lt hl2)
        _ = p2 (53 + (n.log2 + 1)) := (p2_add _ _).symm
        _ ≤ p2 (52 + more) := p2_le (by omega)
    have hmag : p2 53 ≤ 2 * (4503599627370496 <<< more / n) + (4503599627370496 <<< more % n != 0).toNat := by omega
    generalize 2 * (4503599627370496 <<< more / n) + (4503599627370496 <<< more % n != 0).toNat = mag at hmag
    have hpos := p2_pos 53
    refine near_pos mag _ (by omega) (by omega) ?_
    unfold Sc
    calc p2 1926 ≤ p2 (53 + (-52 - j - (more : Int) - 1 + 3000).toNat) := p2_le (by omega)
      _ = p2 53 * p2 (-52 - j - (more : Int) - 1 + 3000).toNat := p2_add _ _
      _ ≤ mag * p2 (-52 - j - (more : Int) - 1 + 3000).toNat := Nat.mul_le_mul_right _ hmag
/-- A number from zero to one, and zero added. -/
theorem add_zero_unit {y : Nat} (hy : Unit01 y) : ∃ r, fA .add .f64 y 0 = some r ∧ Unit01 r := by
  have hu := unit_le hy
  obtain ⟨⟨n, j, e⟩, h1⟩ := hy
  have hf : Fin (rd y) := rd_fin y
  rw [e] at hf
  obtain ⟨f1, f2, f3⟩ := hf
  have rz : rd 0 = .number false 0 (-1074) := by decide
  have e0 : fA .add .f64 y 0 = ((rd y).sum (rd 0)).map double.write := rfl
  have hmin : min j (-1074) = -1074 := by omega
  have hs0 : signed false 0 ((-1074 : Int) - -1074).toNat = 0 := by decide
  have ht : signed false n (j - -1074).toNat = fv y := by
    rw [fv_num e, signed_eq, if_neg (by decide)]
    have : (j - -1074).toNat = (j + 1074).toNat := by omega
    rw [this]; rfl
  have hnn := nonneg_num e
  rw [e0, e, rz]
  unfold Datum.sum
  simp only [hmin, hs0, ht, Int.add_zero]
  refine ⟨_, rfl, ?_⟩
  have hb : (if fv y = 0 then false && false else decide (fv y < 0)) = false := by
    split
    · rfl
    · exact decide_eq_false (by omega)
  have ew : double.write (.number (if fv y = 0 then false && false else decide (fv y < 0)) (fv y).natAbs (-1074)) = double.nearest false (fv y).natAbs (-1074) := by rw [hb]; rfl
  rw [ew]
  have hna : (fv y).natAbs = (fv y).toNat := by omega
  have hS : Sc (fv y).natAbs (-1074) ≤ p2 3000 := by
    unfold Sc
    have z : ((-1074 : Int) + 3000).toNat = 1926 := by decide
    rw [z, hna]
    calc (fv y).toNat * p2 1926 ≤ p2 1074 * p2 1926 := Nat.mul_le_mul_right _ hu
      _ = p2 3000 := (p2_add 1074 1926).symm
  obtain ⟨r1, r2⟩ := near_ok (fv y).natAbs (-1074) (by omega) (Nat.le_trans hS (p2_le (by omega)))
  refine ⟨r2, ?_⟩
  rw [r1]
  have h3 := RN_mono hS
  have h4 := RN_int 1 (by rw [p53]; omega)
  rw [Nat.one_mul, Nat.one_mul] at h4
  rw [h4] at h3
  exact Int.ofNat_le.2 h3
end Go.Proofs.Ytgnpilaadggegaa.fl
