/- Numbers in pieces: what Get reads of what Put writes. -/
import Derived.Test.YthhahjkekgbhhaaSz9
import Derived.Test.YthhahjkekgbhhaaRows
import Derived.Test.YthhahjkekgbhhaaLs3tab
set_option linter.unusedSimpArgs false
set_option linter.unusedVariables false
namespace Go.Proofs.Ythhahjkekgbhhaa.s3
open Go Go.Ev Go.Sy Go.RowKit Go.Proofs.Ythhahjkekgbhhaa.bk
/-- Pieces of seven bits, all but the last marked. -/
def enc : List Nat → List UInt8
  | [] => []
  | [d] => [UInt8.ofNat d]
  | d :: e :: l => UInt8.ofNat (d + 128) :: enc (e :: l)
def val : List Nat → Nat
  | [] => 0
  | d :: l => d + 128 * val l
def digs (v : Nat) : List Nat := if h : 128 ≤ v then v % 128 :: digs (v / 128) else [v]
termination_by v
decreasing_by omega
theorem digs_ne (v : Nat) : digs v ≠ [] := by rw [digs]; split <;> simp
theorem digs_lt (v : Nat) : ∀ d ∈ digs v, d < 128 := by
  induction v using Nat.strongRecOn with
  | _ v ih =>
    rw [digs]; split
    · intro d hd
      rcases List.mem_cons.1 hd with rfl | hd
      · omega
      · exact ih _ (by omega) d hd
    · intro d hd; simp at hd; omega
theorem digs_val (v : Nat) : val (digs v) = v := by
  induction v using Nat.strongRecOn with
  | _ v ih =>
    rw [digs]; split
    · rw [val, ih _ (by omega)]; omega
    · simp [val]
theorem digs_enc (v : Nat) : enc (digs v) = more v := by
  induction v using Nat.strongRecOn with
  | _ v ih =>
    rw [digs, more]; split
    · have hn := digs_ne (v / 128)
      rw [← ih _ (by omega)]
      match digs (v / 128), hn with
      | d :: l, _ => rfl
    · rfl
theorem enc_len : ∀ l : List Nat, (enc l).length = l.length
  | [] => rfl
  | [_] => rfl
  | d :: e :: l => by rw [enc, List.length_cons, enc_len (e :: l)]; rfl
theorem getD_drop {α : Type} (b : List α) (i : Nat) (x : α) (l : List α) (z : α) (h : b.drop i = x :: l) : b.getD i z = x ∧ b.drop (i + 1) = l ∧ i < b.length := by
  have h1 : i < b.length := by
    rcases Nat.lt_or_ge i b.length with h' | h'
    · exact h'
    · rw [List.drop_eq_nil_of_le h'] at h; cases h
  rw [List.drop_eq_getElem_cons h1] at h
  injection h with h2 h3
  exact ⟨by simp [List.getD, h1, h2], h3, h1⟩
theorem p7 (r : Nat) (h : r ≤ 4) : 2 ^ (7 * (5 - r)) = 128 * 2 ^ (7 * (4 - r)) := by
  rw [show 7 * (5 - r) = 7 + 7 * (4 - r) by omega, Nat.pow_add]
/-- Pieces are read as they were written, if there are not too many. -/
theorem getL_enc (b : List UInt8) : ∀ (l : List Nat) (r i v0 : Nat) (behind : List UInt8), l ≠ [] → (∀ d ∈ l, d < 128) → r ≤ 5 → b.drop i = enc l ++ behind → v0 + val l * 2 ^ (7 * (5 - r)) ≤ 2147483647 →
    getL b r i v0 = if l.length ≤ r then (v0 + val l * 2 ^ (7 * (5 - r)), i + l.length, 0) else (0, 0, 2) := by
  intro l
  induction l with
  | nil => intro r i v0 behind h; exact absurd rfl h
  | cons d l ih =>
    intro r i v0 behind _ hd hr hb hv
    cases r with
    | zero => rw [if_neg (by simp), getL]
    | succ r =>
      have hp := p7 r (by omega)
      have hd0 := hd d (by simp)
      rw [show 5 - (r + 1) = 4 - r by omega] at hv ⊢
      cases l with
      | nil =>
        obtain ⟨h1, _, h3⟩ := getD_drop b i _ _ 0 hb
        have ha : atB b i = d := by unfold atB; rw [h1, u8_toNat_ofNat (by omega)]
        simp only [val, Nat.mul_zero, Nat.add_zero] at hv ⊢
        rw [getL, if_neg (by omega), ha, Nat.mod_eq_of_lt hd0, if_neg (by omega), if_pos hd0, if_pos (by simp)]; rfl
      | cons e l =>
        obtain ⟨h1, h2, h3⟩ := getD_drop b i _ _ 0 hb
        have ha : atB b i = d + 128 := by unfold atB; rw [h1, u8_toNat_ofNat (by omega)]
        have hm : (d + 128) % 128 = d := by omega
        have e1 : val (d :: e :: l) * 2 ^ (7 * (4 - r)) = d * 2 ^ (7 * (4 - r)) + val (e :: l) * 2 ^ (7 * (5 - r)) := by
          rw [hp, val, Nat.add_mul, Nat.mul_comm 128, Nat.mul_assoc]
        rw [e1] at hv ⊢
        rw [getL, if_neg (by omega), ha, hm, if_neg (by omega), if_neg (by omega), ih r (i + 1) (v0 + d * 2 ^ (7 * (4 - r))) behind (by simp) (fun x hx => hd x (by simp [hx])) (by omega) h2 (by omega)]
        by_cases hl : (e :: l).length ≤ r
        · rw [if_pos hl, if_pos (by simp at hl ⊢; omega)]
          simp only [List.length_cons]
          rw [show i + 1 + (l.length + 1) = i + (l.length + 1 + 1) by omega, Nat.add_assoc]
        · rw [if_neg hl, if_neg (by simp at hl ⊢; omega)]
/-- Cut off, they are short. -/
theorem getL_cut (b : List UInt8) : ∀ (l : List Nat) (r i v0 m : Nat), (∀ d ∈ l, d < 128) → r ≤ 5 → b.drop i = (enc l).take m → m < l.length → l.length ≤ r → v0 + val l * 2 ^ (7 * (5 - r)) ≤ 2147483647 → getL b r i v0 = (0, 0, 3) := by
  intro l
  induction l with
  | nil => intro r i v0 m _ _ _ h; simp at h
  | cons d l ih =>
    intro r i v0 m hd hr hb hm hl hv
    cases r with
    | zero => simp at hl
    | succ r =>
      cases m with
      | zero =>
        rw [List.take_zero, List.drop_eq_nil_iff] at hb
        rw [getL, if_pos hb]
      | succ m =>
        have hp := p7 r (by omega)
        have hd0 := hd d (by simp)
        rw [show 5 - (r + 1) = 4 - r by omega] at hv
        cases l with
        | nil => simp at hm
        | cons e l =>
          obtain ⟨h1, h2, h3⟩ := getD_drop b i _ _ 0 hb
          have ha : atB b i = d + 128 := by unfold atB; rw [h1, u8_toNat_ofNat (by omega)]
          have hm' : (d + 128) % 128 = d := by omega
          have e1 : val (d :: e :: l) * 2 ^ (7 * (4 - r)) = d * 2 ^ (7 * (4 - r)) + val (e :: l) * 2 ^ (7 * (5 - r)) := by
            rw [hp, val, Nat.add_mul, Nat.mul_comm 128, Nat.mul_assoc]
          rw [e1] at hv
          rw [getL, if_neg (by omega), ha, hm', if_neg (by omega), if_neg (by omega), ih r (i + 1) (v0 + d * 2 ^ (7 * (4 - r))) m (fun x hx => hd x (by simp [hx])) (by omega) h2 (by simp at hm ⊢; omega) (by simp at hl ⊢; omega) (by omega)]
theorem head_mod (t : UInt8) (k v : Nat) (hk : k ≤ 8) (hv : v < 2 ^ k) : (headB t k v).toNat % 2 ^ k = v := by
  unfold headB
  rw [u8_toNat_ofNat (beside_lt t k v hk hv), Nat.mul_add_mod, Nat.mod_eq_of_lt hv]
theorem at_app (a : List UInt8) (x : UInt8) (l : List UInt8) : atB (a ++ x :: l) a.length = x.toNat := by
  unfold atB; simp [List.getD]
/-- What Put wrote comes back, whatever stands ahead and behind. -/
theorem get_back (ahead behind : List UInt8) (t : UInt8) (k v : Nat) (hk0 : 1 ≤ k) (hk : k ≤ 8) (hv : v ≤ 2147483647) :
    getOut (ahead ++ (putB t k v ++ behind)) ahead.length k = (v, ahead.length + (putB t k v).length, 0) := by
  have hp : 2 ^ k ≤ 2 ^ 8 := Nat.pow_le_pow_right (by omega) hk
  have hp0 : 0 < 2 ^ k := Nat.two_pow_pos k
  unfold putB
  split
  · rename_i h
    unfold getOut
    rw [if_neg (by simp; omega), if_neg (by simp; omega)]
    simp only [toNat_cast, List.cons_append, List.nil_append, at_app, head_mod t k v hk (by omega)]
    rw [if_pos h]; rfl
  · rename_i h
    unfold getOut
    rw [if_neg (by simp; omega), if_neg (by simp; omega)]
    simp only [toNat_cast, List.cons_append, at_app, head_mod t k (2 ^ k - 1) hk (by omega)]
    rw [if_neg (by omega)]
    have hm := more_len (v - (2 ^ k - 1)) (by omega)
    rw [← digs_enc] at hm ⊢
    rw [enc_len] at hm
    rw [getL_enc _ (digs (v - (2 ^ k - 1))) 5 (ahead.length + 1) (2 ^ k - 1) behind (digs_ne _) (digs_lt _) (Nat.le_refl _) (by rw [← List.drop_drop, List.drop_left]; rfl) (by rw [digs_val]; simp; omega), if_pos hm, digs_val, List.length_cons, enc_len]
    simp; omega
/-- Cut off, it is short. -/
theorem get_cut (ahead : List UInt8) (t : UInt8) (k v c : Nat) (hk0 : 1 ≤ k) (hk : k ≤ 8) (hv : v ≤ 2147483647) (hc : c < (putB t k v).length) :
    getOut (ahead ++ (putB t k v).take c) ahead.length k = (0, 0, 3) := by
  have hp : 2 ^ k ≤ 2 ^ 8 := Nat.pow_le_pow_right (by omega) hk
  have hp0 : 0 < 2 ^ k := Nat.two_pow_pos k
  cases c with
  | zero =>
    unfold getOut
    rw [if_neg (by simp; omega), if_pos (by simp)]
  | succ c =>
    unfold putB at hc ⊢
    split at hc
    · simp at hc
    · rename_i h
      rw [if_neg h]
      unfold getOut
      rw [List.take_succ_cons, if_neg (by simp; omega), if_neg (by simp; omega)]
      simp only [toNat_cast, at_app, head_mod t k (2 ^ k - 1) hk (by omega)]
      rw [if_neg (by omega)]
      have hm := more_len (v - (2 ^ k - 1)) (by omega)
      rw [← digs_enc] at hm hc ⊢
      rw [List.length_cons, enc_len] at hc
      rw [enc_len] at hm
      exact getL_cut _ (digs (v - (2 ^ k - 1))) 5 (ahead.length + 1) (2 ^ k - 1) c (digs_lt _) (Nat.le_refl _) (by rw [← List.drop_drop, List.drop_left]; rfl) (by omega) hm (by rw [digs_val]; simp; omega)
theorem put_apart (t : UInt8) (k x y : Nat) (hk0 : 1 ≤ k) (hk : k ≤ 8) (hx : x ≤ 2147483647) (hy : y ≤ 2147483647) (hl : (putB t k x).length ≤ (putB t k y).length) (h : putB t k x = (putB t k y).take (putB t k x).length) : x = y := by
  have h1 := get_back [] [] t k y hk0 hk hy
  have h2 := get_back [] ((putB t k y).drop (putB t k x).length) t k x hk0 hk hx
  have e : putB t k x ++ (putB t k y).drop (putB t k x).length = putB t k y := by
    conv => lhs; lhs; rw [h]
    exact List.take_append_drop _ _
  rw [e] at h2
  rw [List.append_nil, h2] at h1
  exact (Prod.mk.inj h1).1
theorem put_same (t : UInt8) (k x y : Nat) (hk0 : 1 ≤ k) (hk : k ≤ 8) (hx : x ≤ 2147483647) (hy : y ≤ 2147483647) :
    (putB t k x).take (min (putB t k x).length (putB t k y).length) = (putB t k y).take (min (putB t k x).length (putB t k y).length) ↔ x = y := by
  constructor
  · intro h
    rcases Nat.le_total (putB t k x).length (putB t k y).length with hl | hl
    · rw [Nat.min_eq_left hl, List.take_length] at h
      exact put_apart t k x y hk0 hk hx hy hl h
    · rw [Nat.min_eq_right hl, List.take_length] at h
      exact (put_apart t k y x hk0 hk hy hx hl h.symm).symm
  · rintro rfl; rfl
theorem more_mono (b : Nat) : ∀ a, a ≤ b → (more a).length ≤ (more b).length := by
  induction b using Nat.strongRecOn with
  | _ b ih =>
    intro a h
    conv => lhs; rw [more]
    conv => rhs; rw [more]
    split
    · rw [dif_pos (by omega)]
      have := ih (b / 128) (by omega) (a / 128) (by omega)
      simp only [List.length_cons]; omega
    · split <;> simp
theorem putB_len (t : UInt8) (k v : Nat) : (putB t k v).length = if v < 2 ^ k - 1 then 1 else (more (v - (2 ^ k - 1))).length + 1 := by
  unfold putB; split <;> simp
theorem putB_pos (t : UInt8) (k v : Nat) : 1 ≤ (putB t k v).length := by rw [putB_len]; split <;> omega
theorem putB_le (t : UInt8) (k v : Nat) (hv : v ≤ 2147483647) : (putB t k v).length ≤ 6 := by
  rw [putB_len]; split
  · omega
  · have := more_len (v - (2 ^ k - 1)) (by omega); omega
theorem putB_mono (t : UInt8) (k a b : Nat) (h : a ≤ b) : (putB t k a).length ≤ (putB t k b).length := by
  rw [putB_len, putB_len]
  split
  · split <;> omega
  · rw [if_neg (by omega)]
    have := more_mono (b - (2 ^ k - 1)) (a - (2 ^ k - 1)) (by omega)
    omega
theorem putB_wide (t : UInt8) (k a : Nat) : (putB t (k + 1) a).length ≤ (putB t k a).length := by
  have hp : 2 ^ k ≤ 2 ^ (k + 1) := Nat.pow_le_pow_right (by omega) (by omega)
  rw [putB_len, putB_len]
  split
  · split <;> omega
  · rw [if_neg (by omega)]
    have := more_mono (a - (2 ^ k - 1)) (a - (2 ^ (k + 1) - 1)) (by omega)
    omega
end Go.Proofs.Ythhahjkekgbhhaa.s3
