/- Bits, and bytes of bits. -/
import Derived.Test.YtlkinjlbaeigdaaSz9
import Derived.Test.YtlkinjlbaeigdaaRows
import Derived.Test.YtlkinjlbaeigdaaLhfO
set_option maxRecDepth 20000
set_option linter.unusedSimpArgs false
set_option linter.unusedVariables false
namespace Go.Proofs.Ytlkinjlbaeigdaa.hf
open Go Go.Ev Go.Sy Go.RowKit Go.Proofs.Ytlkinjlbaeigdaa.gl Go.Proofs.Ytlkinjlbaeigdaa.tk
def val (b : List Bool) : Nat := b.foldl (fun n c => n * 2 + c.toNat) 0
def bl : Nat → Nat → List Bool
  | 0, _ => []
  | n + 1, v => decide (v / 2 ^ n % 2 = 1) :: bl n v
def byN (b : List Bool) : UInt8 := UInt8.ofNat (val b)
def byts (b : List Bool) : List UInt8 := if h : 8 ≤ b.length then byN (b.take 8) :: byts (b.drop 8) else []
termination_by b.length
decreasing_by simp; omega
def rest (b : List Bool) : List Bool := if h : 8 ≤ b.length then rest (b.drop 8) else b
termination_by b.length
decreasing_by simp; omega
def cB (s : Nat) : List Bool := bl (hLen s) (codeN s)
def encB (l : List UInt8) : List Bool := l.flatMap fun c => cB c.toNat
def padd (b : List Bool) : List Bool := b ++ List.replicate ((8 - b.length % 8) % 8) true
def encL (l : List UInt8) : List UInt8 := byts (padd (encB l))
theorem fold_val (b : List Bool) : ∀ n, b.foldl (fun n c => n * 2 + c.toNat) n = n * 2 ^ b.length + val b := by
  induction b with
  | nil => intro n; simp [val]
  | cons c b ih =>
    intro n
    unfold val
    rw [List.foldl_cons, List.foldl_cons, ih, ih (0 * 2 + c.toNat), List.length_cons, Nat.pow_succ, Nat.add_mul, Nat.mul_assoc, Nat.mul_comm 2]
    simp only [Nat.zero_mul, Nat.zero_add]
    omega
theorem val_app (a b : List Bool) : val (a ++ b) = val a * 2 ^ b.length + val b := by
  unfold val; rw [List.foldl_append, fold_val]; rfl
theorem val_cons (c : Bool) (b : List Bool) : val (c :: b) = c.toNat * 2 ^ b.length + val b := by
  have := val_app [c] b
  rw [List.singleton_append] at this
  rw [this]; simp [val]
theorem val_lt (b : List Bool) : val b < 2 ^ b.length := by
  induction b with
  | nil => decide
  | cons c b ih =>
    rw [val_cons, List.length_cons, Nat.pow_succ]
    have : c.toNat ≤ 1 := by cases c <;> decide
    have h2 : c.toNat * 2 ^ b.length ≤ 1 * 2 ^ b.length := Nat.mul_le_mul_right _ this
    omega
theorem bl_len (n v : Nat) : (bl n v).length = n := by
  induction n with
  | zero => rfl
  | succ n ih => rw [bl, List.length_cons, ih]
theorem val_bl (n v : Nat) : val (bl n v) = v % 2 ^ n := by
  induction n with
  | zero => rw [bl, Nat.pow_zero, Nat.mod_one]; rfl
  | succ n ih =>
    rw [bl, val_cons, ih, bl_len, Nat.mod_pow_succ]
    have : (decide (v / 2 ^ n % 2 = 1)).toNat = v / 2 ^ n % 2 := by
      have := Nat.mod_two_eq_zero_or_one (v / 2 ^ n)
      rcases this with h | h <;> rw [h] <;> decide
    rw [this, Nat.mul_comm]; omega
theorem bl_val (b : List Bool) : bl b.length (val b) = b := by
  induction b with
  | nil => rfl
  | cons c b ih =>
    rw [List.length_cons, bl]
    have hv := val_lt b
    have hp : 0 < 2 ^ b.length := Nat.two_pow_pos _
    have e1 : val (c :: b) / 2 ^ b.length = c.toNat := by
      rw [val_cons, Nat.add_comm, Nat.add_mul_div_right _ _ hp, Nat.div_eq_of_lt hv, Nat.zero_add]
    have e2 : decide (c.toNat % 2 = 1) = c := by cases c <;> decide
    rw [e1, e2]
    have e3 : ∀ n v w, v % 2 ^ n = w % 2 ^ n → bl n v = bl n w := by
      intro n
      induction n with
      | zero => intros; rfl
      | succ n ih2 =>
        intro v w h
        rw [bl, bl]
        have h1 : v % 2 ^ n = w % 2 ^ n := by
          have this : v % 2 ^ (n + 1) % 2 ^ n = w % 2 ^ (n + 1) % 2 ^ n := by rw [h]
          rwa [Nat.mod_mod_of_dvd _ ⟨2, Nat.pow_succ 2 n⟩, Nat.mod_mod_of_dvd _ ⟨2, Nat.pow_succ 2 n⟩] at this
        have h2 : v / 2 ^ n % 2 = w / 2 ^ n % 2 := by
          rw [Nat.mod_pow_succ, Nat.mod_pow_succ, h1] at h
          have hp : 0 < 2 ^ n := Nat.two_pow_pos _
          exact Nat.eq_of_mul_eq_mul_left hp (by omega)
        rw [ih2 _ _ h1, h2]
    rw [e3 b.length (val (c :: b)) (val b) (by rw [val_cons, Nat.add_comm, Nat.add_mul_mod_self_right]), ih]
theorem val_take (b : List Bool) (k : Nat) (h : k ≤ b.length) : val (b.take k) = val b / 2 ^ (b.length - k) ∧ val (b.drop k) = val b % 2 ^ (b.length - k) := by
  have e : val b = val (b.take k) * 2 ^ (b.length - k) + val (b.drop k) := by
    conv => lhs; rw [← List.take_append_drop k b]
    rw [val_app, List.length_drop]
  have h2 := val_lt (b.drop k)
  rw [List.length_drop] at h2
  have hp : 0 < 2 ^ (b.length - k) := Nat.two_pow_pos _
  rw [e]
  constructor
  · rw [Nat.add_comm, Nat.add_mul_div_right _ _ hp, Nat.div_eq_of_lt h2, Nat.zero_add]
  · rw [Nat.add_comm, Nat.add_mul_mod_self_right, Nat.mod_eq_of_lt h2]
theorem val_ones (n : Nat) : val (List.replicate n true) = 2 ^ n - 1 := by
  induction n with
  | zero => rfl
  | succ n ih =>
    have hp : 0 < 2 ^ n := Nat.two_pow_pos _
    rw [List.replicate_succ, val_cons, ih, List.length_replicate, Nat.pow_succ, show Bool.toNat true = 1 from rfl]; omega
theorem byts_ge (b : List Bool) (h : 8 ≤ b.length) : byts b = byN (b.take 8) :: byts (b.drop 8) := by rw [byts, dif_pos h]
theorem byts_lt (b : List Bool) (h : b.length < 8) : byts b = [] := by rw [byts, dif_neg (by omega)]
theorem rest_ge (b : List Bool) (h : 8 ≤ b.length) : rest b = rest (b.drop 8) := by rw [rest, dif_pos h]
theorem rest_lt (b : List Bool) (h : b.length < 8) : rest b = b := by rw [rest, dif_neg (by omega)]
theorem app_aux : ∀ (n : Nat) (x y : List Bool), x.length ≤ n → byts (x ++ y) = byts x ++ byts (rest x ++ y) ∧ rest (x ++ y) = rest (rest x ++ y) := by
  intro n
  induction n using Nat.strongRecOn with
  | _ n ih =>
    intro x y h
    by_cases h8 : 8 ≤ x.length
    · have := ih (n - 8) (by omega) (x.drop 8) y (by simp; omega)
      have d : (x ++ y).drop 8 = x.drop 8 ++ y := List.drop_append_of_le_length h8
      have t : (x ++ y).take 8 = x.take 8 := List.take_append_of_le_length h8
      rw [byts_ge (x ++ y) (by simp; omega), rest_ge (x ++ y) (by simp; omega), byts_ge x h8, rest_ge x h8, d, t, this.1, this.2]
      exact ⟨rfl, rfl⟩
    · rw [byts_lt x (by omega), rest_lt x (by omega)]; exact ⟨rfl, rfl⟩
theorem byts_app (x y : List Bool) : byts (x ++ y) = byts x ++ byts (rest x ++ y) := (app_aux _ x y (Nat.le_refl _)).1
theorem rest_app (x y : List Bool) : rest (x ++ y) = rest (rest x ++ y) := (app_aux _ x y (Nat.le_refl _)).2
theorem rest_len : ∀ (n : Nat) (b : List Bool), b.length ≤ n → (rest b).length = b.length % 8 ∧ (byts b).length = b.length / 8 := by
  intro n
  induction n using Nat.strongRecOn with
  | _ n ih =>
    intro b h
    by_cases h8 : 8 ≤ b.length
    · have := ih (n - 8) (by omega) (b.drop 8) (by simp; omega)
      rw [List.length_drop] at this
      rw [rest_ge b h8, byts_ge b h8, List.length_cons, this.1, this.2]
      omega
    · rw [rest_lt b (by omega), byts_lt b (by omega), List.length_nil]
      omega
theorem rest_l (b : List Bool) : (rest b).length = b.length % 8 := (rest_len _ b (Nat.le_refl _)).1
theorem byts_l (b : List Bool) : (byts b).length = b.length / 8 := (rest_len _ b (Nat.le_refl _)).2
theorem rest_byts (b : List Bool) (h : b.length % 8 = 0) : rest b = [] := List.eq_nil_of_length_eq_zero (by rw [rest_l]; exact h)
def codeP (s : Nat) : Nat := fstN (hLen s) + (posN s - stN (hLen s))
theorem code_p (s : Nat) (h : s < 257) : codeN s = codeP s := by have := pos_eq s h; unfold codeN codeP; omega
theorem cd_all : ∀ s : Fin 257, codeP s.1 < 2 ^ hLen s.1 := by decide +kernel
theorem code_lt (s : Nat) (h : s < 257) : codeN s < 2 ^ hLen s := by rw [code_p s h]; exact cd_all ⟨s, h⟩
theorem cB_len (s : Nat) : (cB s).length = hLen s := bl_len _ _
theorem cB_val (s : Nat) (h : s < 257) : val (cB s) = codeN s := by unfold cB; rw [val_bl, Nat.mod_eq_of_lt (code_lt s h)]
theorem encB_app (a b : List UInt8) : encB (a ++ b) = encB a ++ encB b := by unfold encB; rw [List.flatMap_append]
theorem encB_len (l : List UInt8) : (encB l).length ≤ 30 * l.length := by
  induction l with
  | nil => simp [encB]
  | cons c l ih =>
    have h : encB (c :: l) = cB c.toNat ++ encB l := by unfold encB; rw [List.flatMap_cons]
    have hb := len_bd c.toNat (by have := c.toNat_lt; omega)
    rw [h, List.length_append, cB_len, List.length_cons]; omega
theorem encL_eq (l : List UInt8) : encL l = if (rest (encB l)).length = 0 then byts (encB l) else byts (encB l) ++ [byN (rest (encB l) ++ List.replicate (8 - (rest (encB l)).length) true)] := by
  unfold encL padd
  have hr := rest_l (encB l)
  rw [byts_app]
  split
  · rename_i h
    rw [show (8 - (encB l).length % 8) % 8 = 0 by omega, List.replicate_zero, List.append_nil, byts_lt (rest (encB l)) (by omega), List.append_nil]
  · rename_i h
    rw [show (8 - (encB l).length % 8) % 8 = 8 - (rest (encB l)).length by omega]
    have hl : (rest (encB l) ++ List.replicate (8 - (rest (encB l)).length) true).length = 8 := by rw [List.length_append, List.length_replicate]; omega
    rw [byts_ge (rest (encB l) ++ _) (by omega), List.take_of_length_le (by omega), List.drop_eq_nil_of_le (by omega), byts_lt [] (by decide)]
theorem fB (s : Nat) (h : s < 257) : f3 257 s = hLen s ∧ f3 257 (257 + s) = codeN s ∧ f3 257 (514 + s) = ordN s := by
  obtain ⟨_, _, h3, _⟩ := pos_in s h
  refine ⟨?_, ?_, ?_⟩
  · unfold f3 f2 f1; rw [if_neg (by omega), if_neg (by omega), if_neg (by omega), if_neg (by omega), if_pos h, if_pos h]
  · unfold f3; rw [if_pos (by omega), Nat.add_sub_cancel_left, if_pos h]
  · unfold f3; rw [if_neg (by omega), if_pos (by omega), Nat.add_sub_cancel_left, if_pos h3]
theorem fZ (z : Nat) (h : z < 31) : f3 257 (771 + z) = fstN z ∧ f3 257 (802 + z) = cntN z ∧ f3 257 (833 + z) = stN z := by
  refine ⟨?_, ?_, ?_⟩
  · unfold f3 f2; rw [if_neg (by omega), if_neg (by omega), if_pos (by omega), Nat.add_sub_cancel_left, if_pos (by omega)]
  · unfold f3 f2 f1; rw [if_neg (by omega), if_neg (by omega), if_neg (by omega), if_neg (by omega), if_neg (by omega), if_pos (by omega), Nat.add_sub_cancel_left, cnt_eq z h]
  · unfold f3 f2; rw [if_neg (by omega), if_neg (by omega), if_neg (by omega), if_pos (by omega), Nat.add_sub_cancel_left, if_pos (by omega)]
end Go.Proofs.Ytlkinjlbaeigdaa.hf
