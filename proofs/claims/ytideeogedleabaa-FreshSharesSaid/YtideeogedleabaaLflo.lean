/- Floating-point words of 64 bits: what they stand for, scaled to whole numbers; their order. -/
import Derived.Test.YtideeogedleabaaSz9
import Derived.Test.YtideeogedleabaaRows
set_option maxRecDepth 20000
set_option linter.unusedSimpArgs false
set_option linter.unusedVariables false
namespace Go.Proofs.Ytideeogedleabaa.fl
open Go Go.Ev Go.Sy Ieee
def p2 (k : Nat) : Nat := 2 ^ k
def dv : Datum → Int
  | .number s m i => signed s m (i + 1074).toNat
  | .infinity s => if s then -(p2 2200 : Int) else (p2 2200 : Int)
  | .nan _ _ => 0
def rd (b : Nat) : Datum := double.read b
def fv (b : Nat) : Int := dv (rd b)
def nn (b : Nat) : Bool := isNan .f64 b
def Fin (d : Datum) : Prop := match d with
  | .number _ m i => -1074 ≤ i ∧ i ≤ 971 ∧ m < 2 ^ 53
  | _ => True
theorem signed_eq (s : Bool) (m k : Nat) : signed s m k = if s then -((m * 2 ^ k : Nat) : Int) else ((m * 2 ^ k : Nat) : Int) := by
  unfold signed; rw [Nat.shiftLeft_eq]
theorem signed_add (s : Bool) (m k j : Nat) : signed s m (k + j) = signed s m k * ((p2 j : Nat) : Int) := by
  rw [signed_eq, signed_eq, Nat.pow_add, ← Nat.mul_assoc]
  unfold p2
  cases s <;> simp [Int.neg_mul]
theorem binade_eq : double.binade = 4503599627370496 := by decide
theorem inf_eq : double.infRung = 9218868437227405312 := by decide
theorem sw_eq : double.signWeight = 9223372036854775808 := by decide
theorem lp_eq : double.leastPlace = -1074 := by decide
theorem rd_fin (b : Nat) : Fin (rd b) := by
  unfold rd Format.read
  simp only [binade_eq, inf_eq, sw_eq, lp_eq]
  split
  · exact ⟨by omega, by omega, by omega⟩
  · split
    · refine ⟨by omega, ?_, ?_⟩
      · have : b % 9223372036854775808 / 4503599627370496 ≤ 2046 := by omega
        omega
      · omega
    · split <;> trivial
theorem clt {x y : Int} (h : x < y) : compare x y = .lt := by simp [compare, compareOfLessAndEq, h]
theorem cgt {x y : Int} (h : y < x) : compare x y = .gt := by
  have h1 : ¬ x < y := by omega
  have h2 : ¬ x = y := by omega
  simp [compare, compareOfLessAndEq, h1, h2]
theorem ceq (x : Int) : compare x x = .eq := by simp [compare, compareOfLessAndEq]
theorem p2_add (a b : Nat) : p2 (a + b) = p2 a * p2 b := by unfold p2; exact Nat.pow_add 2 a b
theorem p2_log (n : Nat) : (p2 n).log2 = n := by unfold p2; exact Nat.log2_two_pow
theorem p2_pos (a : Nat) : 0 < p2 a := Nat.pow_pos (by omega)
theorem p2_le {a b : Nat} (h : a ≤ b) : p2 a ≤ p2 b := Nat.pow_le_pow_right (by omega) h
theorem p2_lt {a b : Nat} (h : a < b) : p2 a < p2 b := Nat.pow_lt_pow_right (by omega) h
theorem cmp_scale (x y : Int) (k : Nat) (h : 0 < k) : compare (x * (k : Int)) (y * (k : Int)) = compare x y := by
  have hk : (0 : Int) < (k : Int) := by omega
  rcases Int.lt_trichotomy x y with h1 | h1 | h1
  · rw [clt h1, clt (Int.mul_lt_mul_of_pos_right h1 hk)]
  · subst h1; simp
  · rw [cgt h1, cgt (Int.mul_lt_mul_of_pos_right h1 hk)]
theorem dv_num (s : Bool) (m : Nat) (i : Int) : dv (.number s m i) = if s then -((m * p2 (i + 1074).toNat : Nat) : Int) else ((m * p2 (i + 1074).toNat : Nat) : Int) := signed_eq _ _ _
theorem dv_small {s : Bool} {m : Nat} {i : Int} (h : Fin (.number s m i)) : -(p2 2200 : Int) < dv (.number s m i) ∧ dv (.number s m i) < (p2 2200 : Int) := by
  obtain ⟨h1, h2, h3⟩ := h
  have hk : (i + 1074).toNat ≤ 2045 := by omega
  have hm : m * p2 (i + 1074).toNat < p2 2200 := by
    calc m * p2 (i + 1074).toNat ≤ p2 53 * p2 2045 := Nat.mul_le_mul (Nat.le_of_lt h3) (p2_le hk)
      _ = p2 2098 := (p2_add 53 2045).symm
      _ < p2 2200 := p2_lt (by omega)
  rw [dv_num]
  generalize m * p2 (i + 1074).toNat = x at *
  generalize p2 2200 = y at *
  cases s
  · simp only [Bool.false_eq_true, if_false]; omega
  · simp only [if_true]; omega
theorem order_dv {a b : Datum} (ha : Fin a) (hb : Fin b) (na : a.isNaN = false) (nb : b.isNaN = false) : Datum.order a b = some (compare (dv a) (dv b)) := by
  cases a with
  | nan => simp [Datum.isNaN] at na
  | infinity s =>
    cases b with
    | nan => simp [Datum.isNaN] at nb
    | infinity t =>
      unfold Datum.order dv
      have hp := p2_pos 2200
      generalize p2 2200 = y at *
      cases s <;> cases t <;> simp only [Bool.false_eq_true, if_false, if_true, Bool.toNat_false, Bool.toNat_true]
      · rw [ceq]; rfl
      · rw [cgt (by omega)]; rfl
      · rw [clt (by omega)]; rfl
      · rw [ceq]; rfl
    | number t n j =>
      obtain ⟨h1, h2⟩ := dv_small hb
      unfold Datum.order
      have e : dv (.infinity s) = if s then -(p2 2200 : Int) else (p2 2200 : Int) := rfl
      rw [e]
      generalize p2 2200 = y at *
      cases s
      · simp only [Bool.false_eq_true, if_false]; rw [cgt h2]
      · simp only [if_true]; rw [clt h1]
  | number s m i =>
    cases b with
    | nan => simp [Datum.isNaN] at nb
    | infinity t =>
      obtain ⟨h1, h2⟩ := dv_small ha
      unfold Datum.order
      have e : dv (.infinity t) = if t then -(p2 2200 : Int) else (p2 2200 : Int) := rfl
      rw [e]
      generalize p2 2200 = y at *
      cases t
      · simp only [Bool.false_eq_true, if_false]; rw [clt h2]
      · simp only [if_true]; rw [cgt h1]
    | number t n j =>
      obtain ⟨a1, a2, a3⟩ := ha
      obtain ⟨b1, b2, b3⟩ := hb
      unfold Datum.order
      simp only
      congr 1
      have e1 : dv (.number s m i) = signed s m (i - min i j).toNat * ((p2 (min i j + 1074).toNat : Nat) : Int) := by
        show signed s m (i + 1074).toNat = _
        rw [← signed_add]; congr 1; omega
      have e2 : dv (.number t n j) = signed t n (j - min i j).toNat * ((p2 (min i j + 1074).toNat : Nat) : Int) := by
        show signed t n (j + 1074).toNat = _
        rw [← signed_add]; congr 1; omega
      rw [e1, e2, cmp_scale _ _ _ (p2_pos _)]
theorem nn_rd (b : Nat) : nn b = (rd b).isNaN := by
  show (match double.read b with | .nan _ _ => true | _ => false) = (double.read b).isNaN
  cases double.read b <;> rfl
theorem ord_nan {a b : Nat} (h : nn a = true ∨ nn b = true) : FloatKind.f64.format.order a b = none := order_nan h
theorem ord_num {a b : Nat} (ha : nn a = false) (hb : nn b = false) : FloatKind.f64.format.order a b = some (compare (fv a) (fv b)) := by
  rw [nn_rd] at ha hb
  exact order_dv (rd_fin a) (rd_fin b) ha hb
theorem gt_f (a b : Nat) : (FloatKind.f64.format.order a b == some .gt) = (!nn a && (!nn b && decide (fv b < fv a))) := by
  cases ha : nn a with
  | true => rw [ord_nan (.inl ha)]; rfl
  | false =>
    cases hb : nn b with
    | true => rw [ord_nan (.inr hb)]; rfl
    | false =>
      rw [ord_num ha hb]
      rcases Int.lt_trichotomy (fv a) (fv b) with h | h | h
      · rw [clt h, decide_eq_false (by omega)]; rfl
      · rw [h]; simp
      · rw [cgt h, decide_eq_true h]; rfl
theorem fv0 : fv 0 = 0 := by decide
theorem nn0 : nn 0 = false := by decide
def one : Nat := 4607182418800017408
theorem nn1 : nn one = false := by decide
theorem rd1 : rd one = .number false 4503599627370496 (-52) := by decide
theorem fv1 : fv one = (p2 1074 : Int) := by
  unfold fv; rw [rd1, dv_num, if_neg (by decide), show ((-52 : Int) + 1074).toNat = 1022 by decide, show (4503599627370496 : Nat) = p2 52 by decide, ← p2_add]
def R (b n : Nat) : Nat := n / p2 b + (if p2 b < 2 * (n % p2 b) ∨ (p2 b = 2 * (n % p2 b) ∧ n / p2 b % 2 = 1) then 1 else 0)
theorem R_mono {b n m : Nat} (h : n ≤ m) : R b n ≤ R b m := by
  unfold R
  have hg := p2_pos b
  generalize p2 b = g at *
  have hq : n / g ≤ m / g := Nat.div_le_div_right h
  have dn := Nat.div_add_mod n g
  have dm := Nat.div_add_mod m g
  rcases Nat.lt_or_ge (n / g) (m / g) with h1 | h1
  · split <;> split <;> omega
  · have he : n / g = m / g := by omega
    rw [he] at dn ⊢
    have hr : n % g ≤ m % g := by omega
    split
    · rename_i c
      rw [if_pos (by omega)]; omega
    · split <;> omega
theorem R_exact (b k : Nat) : R b (k * p2 b) = k := by
  unfold R
  have hg := p2_pos b
  rw [Nat.mul_mod_left, Nat.mul_div_cancel _ hg, if_neg (by omega)]; rfl
theorem R_le {b n k : Nat} (h : n ≤ k * p2 b) : R b n ≤ k := by have := R_mono (b := b) h; rwa [R_exact] at this
theorem R_ge {b n k : Nat} (h : k * p2 b ≤ n) : k ≤ R b n := by have := R_mono (b := b) h; rwa [R_exact] at this
theorem R_scale (b c n : Nat) : R (b + c) (n * p2 c) = R b n := by
  unfold R
  have hc := p2_pos c
  have e1 : n * p2 c / p2 (b + c) = n / p2 b := by rw [p2_add, Nat.mul_div_mul_right _ _ hc]
  have e2 : n * p2 c % p2 (b + c) = n % p2 b * p2 c := by rw [p2_add, Nat.mul_mod_mul_right]
  rw [e1, e2, p2_add]
  have l1 : (p2 b * p2 c < 2 * (n % p2 b * p2 c)) ↔ p2 b < 2 * (n % p2 b) := by
    rw [← Nat.mul_assoc]; exact Nat.mul_lt_mul_right hc
  have l2 : (p2 b * p2 c = 2 * (n % p2 b * p2 c)) ↔ p2 b = 2 * (n % p2 b) := by
    rw [← Nat.mul_assoc]; exact Nat.mul_left_inj (by omega)
  simp only [l1, l2]
theorem log_lt (n : Nat) : n < p2 (n.log2 + 1) := Nat.lt_log2_self
theorem log_le {n : Nat} (h : n ≠ 0) : p2 n.log2 ≤ n := Nat.log2_self_le h
theorem cut_R (neg : Bool) (n b : Nat) : Toward.even.cut neg n b = R b n := by
  unfold Toward.cut R
  simp only [Nat.one_shiftLeft]
  rcases Nat.lt_or_ge (n.log2 + 2) b with h | h
  · rw [Nat.min_eq_right (by omega)]
    have h1 : 2 * n < p2 (n.log2 + 2) := by
      have := log_lt n
      have e : p2 (n.log2 + 2) = p2 (n.log2 + 1) * 2 := p2_add _ 1
      omega
    have h2 : p2 (n.log2 + 2) ≤ p2 b := p2_le (by omega)
    have e : (2 ^ (n.log2 + 2) : Nat) = p2 (n.log2 + 2) := rfl
    rw [e]
    generalize p2 (n.log2 + 2) = g at *
    generalize p2 b = g2 at *
    have d1 : n / g = 0 := Nat.div_eq_of_lt (by omega)
    have d2 : n / g2 = 0 := Nat.div_eq_of_lt (by omega)
    have m1 : n % g = n := Nat.mod_eq_of_lt (by omega)
    have m2 : n % g2 = n := Nat.mod_eq_of_lt (by omega)
    rw [d1, d2, m1, m2, if_neg (by omega), decide_eq_false (by omega)]
    have : (g == 2 * n) = false := by simp; omega
    rw [this]; rfl
  · rw [Nat.min_eq_left h]
    have e : (2 ^ b : Nat) = p2 b := rfl
    rw [e]
    congr 1
    by_cases c : p2 b < 2 * (n % p2 b) ∨ (p2 b = 2 * (n % p2 b) ∧ n / p2 b % 2 = 1)
    · rw [if_pos c]
      rcases c with c | ⟨c1, c2⟩
      · rw [decide_eq_true c]; rfl
      · have : (p2 b == 2 * (n % p2 b) && n / p2 b % 2 == 1) = true := by simp [← c1, c2]
        rw [this]; simp
    · rw [if_neg c]
      have c1 : ¬ p2 b < 2 * (n % p2 b) := fun h => c (.inl h)
      have c2 : (p2 b == 2 * (n % p2 b) && n / p2 b % 2 == 1) = false := by
        cases hx : (p2 b == 2 * (n % p2 b) && n / p2 b % 2 == 1) with
        | false => rfl
        | true =>
          simp only [Bool.and_eq_true, beq_iff_eq] at hx
          exact absurd (.inr hx) c
      rw [decide_eq_false c1, c2]; rfl
def Ee (S : Nat) : Nat := S.log2 - 1978
def Kk (S : Nat) : Nat := R (Ee S + 1926) S
def RN (S : Nat) : Nat := Kk S * p2 (Ee S)
def Sc (mag : Nat) (place : Int) : Nat := mag * p2 (place + 3000).toNat
theorem log_sc {mag : Nat} (h : mag ≠ 0) (k : Nat) : (mag * p2 k).log2 = mag.log2 + k := by
  have h0 : mag * p2 k ≠ 0 := Nat.mul_ne_zero h (by have := p2_pos k; omega)
  rw [Nat.log2_eq_iff h0]
  constructor
  · rw [Nat.pow_add]; exact Nat.mul_le_mul_right _ (log_le h)
  · have : (2 : Nat) ^ (mag.log2 + k + 1) = p2 (mag.log2 + 1) * p2 k := by
      have e5 : mag.log2 + 1 + k = mag.log2 + k + 1 := by omega
      rw [← p2_add, e5]; unfold p2; rfl
    rw [this]; exact Nat.mul_lt_mul_of_pos_right (log_lt mag) (p2_pos k)
theorem K_hi (S : Nat) : Kk S ≤ p2 53 := by
  unfold Kk
  refine R_le ?_
  rw [← p2_add]
  refine Nat.le_trans (Nat.le_of_lt (log_lt S)) (p2_le ?_)
  unfold Ee; omega
theorem K_lo {S : Nat} (h : 0 < Ee S) : p2 52 ≤ Kk S := by
  unfold Kk
  refine R_ge ?_
  have h0 : S ≠ 0 := by intro e; subst e; unfold Ee at h; simp at h
  rw [← p2_add]
  have : 52 + (Ee S + 1926) = S.log2 := by unfold Ee at *; omega
  rw [this]; exact log_le h0
theorem log_mono {a b : Nat} (h : a ≤ b) : a.log2 ≤ b.log2 := by
  by_cases h0 : a = 0
  · subst h0; simp
  · exact (Nat.le_log2 (by omega)).2 (Nat.le_trans (log_le h0) h)
theorem RN_mono {S T : Nat} (h : S ≤ T) : RN S ≤ RN T := by
  have he : Ee S ≤ Ee T := by have := log_mono h; unfold Ee; omega
  rcases Nat.lt_or_ge (Ee S) (Ee T) with h1 | h1
  · unfold RN
    calc Kk S * p2 (Ee S) ≤ p2 53 * p2 (Ee S) := Nat.mul_le_mul_right _ (K_hi S)
      _ = p2 (53 + Ee S) := (p2_add _ _).symm
      _ ≤ p2 (52 + Ee T) := p2_le (by omega)
      _ = p2 52 * p2 (Ee T) := p2_add _ _
      _ ≤ Kk T * p2 (Ee T) := Nat.mul_le_mul_right _ (K_lo (by omega))
  · have e : Ee S = Ee T := by omega
    unfold RN Kk
    rw [e]
    exact Nat.mul_le_mul_right _ (R_mono h)
theorem RN_zero : RN 0 = 0 := by
  unfold RN Kk R
  rw [Nat.zero_div, Nat.zero_mod, if_neg (by have := p2_pos (Ee 0 + 1926); omega)]; simp
theorem RN_int (k : Nat) (h : k < p2 53) : RN (k * p2 3000) = k * p2 1074 := by
  by_cases h0 : k = 0
  · subst h0; rw [Nat.zero_mul, RN_zero, Nat.zero_mul]
  · have hl : k.log2 ≤ 52 := by
      have : k.log2 < 53 := (Nat.log2_lt h0).2 h
      omega
    have e1 : Ee (k * p2 3000) = k.log2 + 1022 := by unfold Ee; rw [log_sc h0]; omega
    have e2 : Kk (k * p2 3000) = k * p2 (52 - k.log2) := by
      unfold Kk
      rw [e1]
      have : k * p2 3000 = k * p2 (52 - k.log2) * p2 (k.log2 + 1022 + 1926) := by
        have e3 : 52 - k.log2 + (k.log2 + 1022 + 1926) = 3000 := by omega
        rw [Nat.mul_assoc, ← p2_add, e3]
      rw [this, R_exact]
    have e4 : 52 - k.log2 + (k.log2 + 1022) = 1074 := by omega
    unfold RN
    rw [e1, e2, Nat.mul_assoc, ← p2_add, e4]
theorem nearest_S (mag : Nat) (place : Int) (hp : -3000 ≤ place) (h0 : mag ≠ 0) : double.nearest false mag place = min (Ee (Sc mag place) * 4503599627370496 + Kk (Sc mag place)) 9218868437227405312 := by
  unfold Format.nearest
  rw [if_neg h0]
  simp only [lp_eq, binade_eq, inf_eq, show double.fractionBits = 52 from rfl]
  have hlog : (Sc mag place).log2 = mag.log2 + (place + 3000).toNat := log_sc h0 _
  generalize hl : max (place + (mag.log2 : Int) - (52 : Nat)) (-1074) = last
  have hE : Ee (Sc mag place) = (last - -1074).toNat := by unfold Ee; omega
  have hK : Toward.even.cut false (mag <<< (place - last).toNat) (last - place).toNat = Kk (Sc mag place) := by
    rw [cut_R, Nat.shiftLeft_eq]
    unfold Kk
    rw [hE]
    have hl2 : -1074 ≤ last := by omega
    rcases Int.lt_or_le place last with h | h
    · have a1 : (place - last).toNat = 0 := by omega
      have a2 : (last - -1074).toNat + 1926 = (last - place).toNat + (place + 3000).toNat := by omega
      rw [a1, a2, Nat.pow_zero, Nat.mul_one]
      unfold Sc
      rw [R_scale]
    · have a1 : (last - place).toNat = 0 := by omega
      have a2 : (place + 3000).toNat = (place - last).toNat + ((last - -1074).toNat + 1926) := by omega
      rw [a1]
      have e1 : R 0 (mag * 2 ^ (place - last).toNat) = mag * 2 ^ (place - last).toNat := by
        have := R_exact 0 (mag * 2 ^ (place - last).toNat)
        have z : p2 0 = 1 := Nat.pow_zero 2
        rwa [z, Nat.mul_one] at this
      rw [e1]
      unfold Sc
      rw [a2, p2_add, ← Nat.mul_assoc, R_exact]
      unfold p2; rfl
  rw [hK, hE]
  unfold Format.word
  rw [if_neg (by decide)]
theorem rd_parts (e k : Nat) (he : e ≤ 2044) (hk : k ≤ 9007199254740992) (hlo : e = 0 ∨ 4503599627370496 ≤ k) : rd (e * 4503599627370496 + k) = .number false (if k = 9007199254740992 then 4503599627370496 else k) (-1074 + ((if k = 9007199254740992 then e + 1 else e : Nat) : Int)) := by
  unfold rd Format.read
  simp only [binade_eq, inf_eq, sw_eq, lp_eq]
  have h1 : (e * 4503599627370496 + k) / 9223372036854775808 = 0 := Nat.div_eq_of_lt (by omega)
  have h2 : (e * 4503599627370496 + k) % 9223372036854775808 = e * 4503599627370496 + k := Nat.mod_eq_of_lt (by omega)
  rw [h1, h2]
  have hn : ((0 : Nat) % 2 == 1) = false := rfl
  rw [hn]
  by_cases hs : e * 4503599627370496 + k < 4503599627370496
  · have h0 : e = 0 := by omega
    subst h0
    rw [if_pos hs, if_neg (by omega), if_neg (by omega)]
    simp
  · rw [if_neg hs, if_pos (by omega)]
    by_cases hk2 : k = 9007199254740992
    · subst hk2
      rw [if_pos rfl, if_pos rfl]
      have d1 : (e * 4503599627370496 + 9007199254740992) % 4503599627370496 = 0 := by omega
      have d2 : (e * 4503599627370496 + 9007199254740992) / 4503599627370496 = e + 2 := by omega
      rw [d1, d2]
      congr 1
    · rw [if_neg hk2, if_neg hk2]
      have d1 : (e * 4503599627370496 + k) % 4503599627370496 = k - 4503599627370496 := by omega
      have d2 : (e * 4503599627370496 + k) / 4503599627370496 = e + 1 := by omega
      rw [d1, d2]
      simp only [Datum.number.injEq, true_and]
      constructor <;> omega
theorem fv_parts (e k : Nat) (he : e ≤ 2044) (hk : k ≤ 9007199254740992) (hlo : e = 0 ∨ 4503599627370496 ≤ k) : fv (e * 4503599627370496 + k) = ((k * p2 e : Nat) : Int) := by
  unfold fv
  rw [rd_parts e k he hk hlo, dv_num, if_neg (by decide)]
  by_cases hk2 : k = 9007199254740992
  · subst hk2
    rw [if_pos rfl, if_pos rfl]
    have : (-1074 + ((e + 1 : Nat) : Int) + 1074).toNat = 1 + e := by omega
    have z : 4503599627370496 * p2 1 = 9007199254740992 := by unfold p2; rfl
    rw [this, p2_add, ← Nat.mul_assoc, z]
  · rw [if_neg hk2, if_neg hk2]
    have : (-1074 + ((e : Nat) : Int) + 1074).toNat = e := by omega
    rw [this]
theorem near_ok (mag : Nat) (place : Int) (hp : -3000 ≤ place) (hS : Sc mag place ≤ p2 4000) :
    fv (double.nearest false mag place) = (RN (Sc mag place) : Nat) ∧ ∃ m i, rd (double.nearest false mag place) = .number false m i := by
  by_cases h0 : mag = 0
  · subst h0
    have e : double.nearest false 0 place = 0 := by unfold Format.nearest; rw [if_pos rfl]; rfl
    have e2 : Sc 0 place = 0 := by unfold Sc; rw [Nat.zero_mul]
    rw [e, e2, RN_zero, fv0]
    exact ⟨rfl, _, _, (by decide : rd 0 = .number false 0 (-1074))⟩
  · rw [nearest_S mag place hp h0]
    have hE : Ee (Sc mag place) ≤ 2044 := by
      have := log_mono hS
      have e : (p2 4000).log2 = 4000 := p2_log 4000
      unfold Ee; omega
    have hK : Kk (Sc mag place) ≤ 9007199254740992 := K_hi _
    have hlo : Ee (Sc mag place) = 0 ∨ 4503599627370496 ≤ Kk (Sc mag place) := by
      rcases Nat.eq_zero_or_pos (Ee (Sc mag place)) with h | h
      · exact .inl h
      · exact .inr (K_lo h)
    have hmin : min (Ee (Sc mag place) * 4503599627370496 + Kk (Sc mag place)) 9218868437227405312 = Ee (Sc mag place) * 4503599627370496 + Kk (Sc mag place) := Nat.min_eq_left (by omega)
    rw [hmin]
    exact ⟨fv_parts _ _ hE hK hlo, _, _, rd_parts _ _ hE hK hlo⟩
end Go.Proofs.Ytideeogedleabaa.fl
