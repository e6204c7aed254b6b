/- Floating-point words: whole numbers, products; the models of made clean, in seconds, held against each other, shared. -/
import Derived.Test.YtideeogedleabaaSz9
import Derived.Test.YtideeogedleabaaRows
import Derived.Test.YtideeogedleabaaLflo
set_option maxRecDepth 20000
set_option linter.unusedSimpArgs false
set_option linter.unusedVariables false
namespace Go.Proofs.Ytideeogedleabaa.fl
open Go Go.Ev Go.Sy Ieee
def Unit01 (c : Nat) : Prop := (∃ m i, rd c = .number false m i) ∧ fv c ≤ (p2 1074 : Int)
def cl (b : Nat) : Nat := if nn b = false ∧ 0 < fv b then (if (p2 1074 : Int) < fv b then one else b) else 0
def shr (k : Int) (c : Nat) : Int := ((RN (k.toNat * p2 1074 * (fv c).toNat * p2 852) / p2 1074 : Nat) : Int)
def lim (n : Int) : Int := min (max n 0) 2147483647
theorem share_ex (n : Int) (b : Nat) : ∃ v : Int, v = shr (lim n) (cl b) := ⟨_, rfl⟩
noncomputable def share (n : Int) (b : Nat) : Int := Classical.choose (share_ex n b)
theorem share_eq (n : Int) (b : Nat) : share n b = shr (lim n) (cl b) := Classical.choose_spec (share_ex n b)
theorem cut_zero (neg : Bool) (n b : Nat) : Toward.zero.cut neg n b = n / p2 b := by
  unfold Toward.cut
  simp only [Nat.one_shiftLeft, Bool.toNat_false, Nat.add_zero]
  rcases Nat.lt_or_ge (n.log2 + 2) b with h | h
  · rw [Nat.min_eq_right (by omega)]
    have h1 : 2 * n < p2 (n.log2 + 2) := by
      have := log_lt n
      have e : p2 (n.log2 + 2) = p2 (n.log2 + 1) * 2 := p2_add _ 1
      omega
    have h2 : p2 (n.log2 + 2) ≤ p2 b := p2_le (by omega)
    have e : (2 ^ (n.log2 + 2) : Nat) = p2 (n.log2 + 2) := rfl
    rw [e]
    generalize p2 (n.log2 + 2) = g at *
    generalize p2 b = g2 at *
    have d1 : n / g = 0 := Nat.div_eq_of_lt (by omega)
    have d2 : n / g2 = 0 := Nat.div_eq_of_lt (by omega)
    rw [d1, d2]
  · rw [Nat.min_eq_left h]
    unfold p2; rfl
theorem fv_num {b m : Nat} {i : Int} (h : rd b = .number false m i) : fv b = ((m * p2 (i + 1074).toNat : Nat) : Int) := by
  unfold fv
  rw [h, dv_num, if_neg (by decide)]
theorem toI_num {b m : Nat} {i : Int} (h : rd b = .number false m i) : fToI .f64 b = some (fv b / (p2 1074 : Int)) := by
  have hf : Fin (rd b) := rd_fin b
  rw [h] at hf
  obtain ⟨h1, h2, h3⟩ := hf
  have e : fToI .f64 b = (rd b).toInt .zero := rfl
  rw [e, h, fv_num h]
  unfold Datum.toInt Datum.integral
  simp only
  rw [cut_zero, signed_eq, if_neg (by decide), Nat.pow_zero, Nat.mul_one, Nat.shiftLeft_eq]
  have key : m * 2 ^ i.toNat / p2 (-i).toNat = m * p2 (i + 1074).toNat / p2 1074 := by
    rcases Int.lt_or_le i 0 with h | h
    · have a1 : i.toNat = 0 := by omega
      have a2 : 1074 = (-i).toNat + (i + 1074).toNat := by omega
      rw [a1, Nat.pow_zero, Nat.mul_one]
      have e2 : p2 1074 = p2 (-i).toNat * p2 (i + 1074).toNat := by rw [← p2_add, ← a2]
      rw [e2, Nat.mul_div_mul_right _ _ (p2_pos _)]
    · have a1 : (-i).toNat = 0 := by omega
      have a2 : (i + 1074).toNat = i.toNat + 1074 := by omega
      have z : p2 0 = 1 := Nat.pow_zero 2
      rw [a1, a2, p2_add, ← Nat.mul_assoc, Nat.mul_div_cancel _ (p2_pos _), z, Nat.div_one]
      unfold p2; rfl
  rw [key]
  simp
theorem pos_num {b : Nat} (h0 : nn b = false) (h1 : 0 < fv b) (h2 : fv b < (p2 2200 : Int)) : ∃ m i, rd b = .number false m i := by
  unfold fv at h1 h2
  rw [nn_rd] at h0
  cases h : rd b with
  | nan => rw [h] at h0; simp [Datum.isNaN] at h0
  | infinity s =>
    rw [h] at h1 h2
    unfold dv at h1 h2
    cases s <;> simp at h1 h2
    omega
  | number s m i =>
    rw [h, dv_num] at h1
    cases s
    · exact ⟨m, i, rfl⟩
    · simp only [if_true] at h1
      generalize m * p2 (i + 1074).toNat = x at h1
      omega
theorem one_unit : Unit01 one := ⟨⟨_, _, rd1⟩, by rw [fv1]; exact Int.le_refl _⟩
theorem zero_unit : Unit01 0 := ⟨⟨0, -1074, by decide⟩, by rw [fv0]; have := p2_pos 1074; generalize p2 1074 = x at *; omega⟩
theorem cl_unit (b : Nat) : Unit01 (cl b) := by
  unfold cl
  split
  · rename_i h
    split
    · exact one_unit
    · rename_i h2
      refine ⟨pos_num h.1 h.2 ?_, by omega⟩
      have := p2_lt (a := 1074) (b := 2200) (by omega)
      generalize p2 1074 = x at *
      generalize p2 2200 = y at *
      omega
  · exact zero_unit
theorem p53 : p2 53 = 9007199254740992 := by unfold p2; rfl
theorem near_int (k : Int) (h0 : 0 ≤ k) (h1 : k ≤ 9007199254740991) : fv (FloatKind.f64.nearest k) = k * (p2 1074 : Int) ∧ ∃ m i, rd (FloatKind.f64.nearest k) = .number false m i := by
  have e : FloatKind.f64.nearest k = double.nearest false k.natAbs 0 := by
    show double.nearest (decide (k < 0)) k.natAbs 0 = _
    rw [decide_eq_false (by omega)]
  have hk : k.natAbs < p2 53 := by rw [p53]; omega
  have z : ((0 : Int) + 3000).toNat = 3000 := by decide
  have hS : Sc k.natAbs 0 = k.natAbs * p2 3000 := by unfold Sc; rw [z]
  rw [e]
  obtain ⟨r1, r2⟩ := near_ok k.natAbs 0 (by omega) (by
    rw [hS]
    calc k.natAbs * p2 3000 ≤ p2 53 * p2 3000 := Nat.mul_le_mul_right _ (Nat.le_of_lt hk)
      _ = p2 3053 := (p2_add 53 3000).symm
      _ ≤ p2 4000 := p2_le (by omega))
  refine ⟨?_, r2⟩
  rw [r1, hS, RN_int _ hk]
  have : (k.natAbs : Int) = k := by omega
  rw [Int.natCast_mul, this]
theorem mul_num {a b m n : Nat} {i j : Int} (ha : rd a = .number false m i) (hb : rd b = .number false n j) (hs : (fv a).toNat * (fv b).toNat * p2 852 ≤ p2 4000) :
    ∃ r, fA .mul .f64 a b = some r ∧ fv r = (RN ((fv a).toNat * (fv b).toNat * p2 852) : Nat) ∧ ∃ m i, rd r = .number false m i := by
  have fa : Fin (rd a) := rd_fin a
  have fb : Fin (rd b) := rd_fin b
  rw [ha] at fa; rw [hb] at fb
  obtain ⟨a1, a2, a3⟩ := fa
  obtain ⟨b1, b2, b3⟩ := fb
  have e : fA .mul .f64 a b = some (double.nearest false (m * n) (i + j)) := by
    show ((rd a).product (rd b)).map double.write = _
    rw [ha, hb]; rfl
  have hS : Sc (m * n) (i + j) = (fv a).toNat * (fv b).toNat * p2 852 := by
    rw [fv_num ha, fv_num hb, Int.toNat_natCast, Int.toNat_natCast]
    unfold Sc
    have a4 : (i + j + 3000).toNat = (i + 1074).toNat + (j + 1074).toNat + 852 := by omega
    rw [a4, p2_add, p2_add]
    simp only [Nat.mul_assoc, Nat.mul_left_comm]
  obtain ⟨r1, r2⟩ := near_ok (m * n) (i + j) (by omega) (by rw [hS]; exact hs)
  exact ⟨_, e, by rw [r1, hS], r2⟩
theorem sh_bound {k c : Nat} (hk : k ≤ p2 53) (hc : c ≤ p2 1074) : k * p2 1074 * c * p2 852 ≤ k * p2 3000 := by
  calc k * p2 1074 * c * p2 852 ≤ k * p2 1074 * p2 1074 * p2 852 := Nat.mul_le_mul_right _ (Nat.mul_le_mul_left _ hc)
    _ = k * p2 3000 := by rw [Nat.mul_assoc, Nat.mul_assoc, ← p2_add, ← p2_add]
theorem unit_le {c : Nat} (h : Unit01 c) : (fv c).toNat ≤ p2 1074 := by
  have := h.2
  generalize p2 1074 = x at *
  omega
theorem shr_ok (k : Int) (c : Nat) (h0 : 0 ≤ k) (h1 : k ≤ 2147483647) (hc : Unit01 c) : ∃ r, fA .mul .f64 (FloatKind.f64.nearest k) c = some r ∧ fToI .f64 r = some (shr k c) := by
  obtain ⟨n1, m, i, n2⟩ := near_int k h0 (by omega)
  obtain ⟨⟨m', i', c1⟩, c2⟩ := hc
  have e : (fv (FloatKind.f64.nearest k)).toNat = k.toNat * p2 1074 := by
    rw [n1]
    have : k * (p2 1074 : Int) = ((k.toNat * p2 1074 : Nat) : Int) := by rw [Int.natCast_mul]; congr 1; omega
    rw [this, Int.toNat_natCast]
  have hk : k.toNat ≤ p2 53 := by rw [p53]; omega
  obtain ⟨r, r1, r2, m2, i2, r3⟩ := mul_num n2 c1 (by
    rw [e]
    refine Nat.le_trans (sh_bound hk (unit_le ⟨⟨m', i', c1⟩, c2⟩)) ?_
    calc k.toNat * p2 3000 ≤ p2 53 * p2 3000 := Nat.mul_le_mul_right _ hk
      _ = p2 3053 := (p2_add 53 3000).symm
      _ ≤ p2 4000 := p2_le (by omega))
  refine ⟨r, r1, ?_⟩
  rw [toI_num r3, r2, e]
  unfold shr
  rw [Int.natCast_ediv]
theorem shr_le (k : Int) (c : Nat) (h0 : 0 ≤ k) (h1 : k ≤ 2147483647) (hc : Unit01 c) : 0 ≤ shr k c ∧ shr k c ≤ k := by
  have hk : k.toNat < p2 53 := by rw [p53]; omega
  have h2 := RN_mono (sh_bound (Nat.le_of_lt hk) (unit_le hc))
  rw [RN_int _ hk] at h2
  have h3 : RN (k.toNat * p2 1074 * (fv c).toNat * p2 852) / p2 1074 ≤ k.toNat := by
    exact Nat.le_trans (Nat.div_le_div_right h2) (Nat.le_of_eq (Nat.mul_div_cancel _ (p2_pos 1074)))
  unfold shr
  generalize RN (k.toNat * p2 1074 * (fv c).toNat * p2 852) / p2 1074 = x at *
  omega
theorem shr_one (k : Int) (h0 : 0 ≤ k) (h1 : k ≤ 2147483647) : shr k one = k := by
  have hk : k.toNat < p2 53 := by rw [p53]; omega
  unfold shr
  rw [fv1, Int.toNat_natCast]
  have e : k.toNat * p2 1074 * p2 1074 * p2 852 = k.toNat * p2 3000 := by rw [Nat.mul_assoc, Nat.mul_assoc, ← p2_add, ← p2_add]
  rw [e, RN_int _ hk, Nat.mul_div_cancel _ (p2_pos 1074)]
  omega
theorem shr_zero (k : Int) : shr k 0 = 0 := by
  unfold shr
  rw [fv0]
  have e : k.toNat * p2 1074 * (0 : Int).toNat * p2 852 = 0 := by simp
  rw [e, RN_zero, Nat.zero_div]; rfl
end Go.Proofs.Ytideeogedleabaa.fl
