/- Numbers in pieces: what Get reads of what Put writes. -/
import Derived.Test.YtlkinjlbaeigdaaSz9
import Derived.Test.YtlkinjlbaeigdaaRows
import Derived.Test.YtlkinjlbaeigdaaLs3gp8
set_option maxRecDepth 20000
set_option linter.unusedSimpArgs false
set_option linter.unusedVariables false
namespace Go.Proofs.Ytlkinjlbaeigdaa.sb
open Go Go.Ev Go.Sy Go.RowKit Go.Proofs.Ytlkinjlbaeigdaa.bk Go.Proofs.Ytlkinjlbaeigdaa.s3
def enc : List Nat → List UInt8
  | [] => []
  | [d] => [UInt8.ofNat d]
  | d :: e :: l => UInt8.ofNat (d + 128) :: enc (e :: l)
def val : List Nat → Nat
  | [] => 0
  | d :: l => d + 128 * val l
def digs (v : Nat) : List Nat := if h : 128 ≤ v then v % 128 :: digs (v / 128) else [v]
termination_by v
decreasing_by omega
theorem digs_ne (v : Nat) : digs v ≠ [] := by rw [digs]; split <;> simp
theorem digs_lt (v : Nat) : ∀ d ∈ digs v, d < 128 := by
  induction v using Nat.strongRecOn with
  | _ v ih =>
    rw [digs]; split
    · intro d hd
      rcases List.mem_cons.1 hd with rfl | hd
      · omega
      · exact ih _ (by omega) d hd
    · intro d hd; simp at hd; omega
theorem digs_val (v : Nat) : val (digs v) = v := by
  induction v using Nat.strongRecOn with
  | _ v ih =>
    rw [digs]; split
    · rw [val, ih _ (by omega)]; omega
    · simp [val]
theorem digs_enc (v : Nat) : enc (digs v) = more v := by
  induction v using Nat.strongRecOn with
  | _ v ih =>
    rw [digs, more]; split
    · have hn := digs_ne (v / 128)
      rw [← ih _ (by omega)]
      match digs (v / 128), hn with
      | d :: l, _ => rfl
    · rfl
theorem enc_len : ∀ l : List Nat, (enc l).length = l.length
  | [] => rfl
  | [_] => rfl
  | d :: e :: l => by rw [enc, List.length_cons, enc_len (e :: l)]; rfl
theorem getD_drop {α : Type} (b : List α) (i : Nat) (x : α) (l : List α) (z : α) (h : b.drop i = x :: l) : b.getD i z = x ∧ b.drop (i + 1) = l ∧ i < b.length := by
  have h1 : i < b.length := by
    rcases Nat.lt_or_ge i b.length with h' | h'
    · exact h'
    · rw [List.drop_eq_nil_of_le h'] at h; cases h
  rw [List.drop_eq_getElem_cons h1] at h
  injection h with h2 h3
  exact ⟨by simp [List.getD, h1, h2], h3, h1⟩
theorem p7 (r : Nat) (h : r ≤ 4) : 2 ^ (7 * (5 - r)) = 128 * 2 ^ (7 * (4 - r)) := by
  rw [show 7 * (5 - r) = 7 + 7 * (4 - r) by omega, Nat.pow_add]
theorem getL_enc (b : List UInt8) : ∀ (l : List Nat) (r i v0 : Nat) (behind : List UInt8), l ≠ [] → (∀ d ∈ l, d < 128) → r ≤ 5 → b.drop i = enc l ++ behind → v0 + val l * 2 ^ (7 * (5 - r)) ≤ 2147483647 →
    getL b r i v0 = if l.length ≤ r then (v0 + val l * 2 ^ (7 * (5 - r)), i + l.length, 0) else (0, 0, 2) := by
  intro l
  induction l with
  | nil => intro r i v0 behind h; exact absurd rfl h
  | cons d l ih =>
    intro r i v0 behind _ hd hr hb hv
    cases r with
    | zero => rw [if_neg (by simp), getL]
    | succ r =>
      have hp := p7 r (by omega)
      have hd0 := hd d (by simp)
      rw [show 5 - (r + 1) = 4 - r by omega] at hv ⊢
      cases l with
      | nil =>
        obtain ⟨h1, _, h3⟩ := getD_drop b i _ _ 0 hb
        have ha : atB b i = d := by unfold atB; rw [h1, u8_toNat_ofNat (by omega)]
        simp only [val, Nat.mul_zero, Nat.add_zero] at hv ⊢
        rw [getL, if_neg (by omega), ha, Nat.mod_eq_of_lt hd0, if_neg (by omega), if_pos hd0, if_pos (by simp)]; rfl
      | cons e l =>
        obtain ⟨h1, h2, h3⟩ := getD_drop b i _ _ 0 hb
        have ha : atB b i = d + 128 := by unfold atB; rw [h1, u8_toNat_ofNat (by omega)]
        have hm : (d + 128) % 128 = d := by omega
        have e1 : val (d :: e :: l) * 2 ^ (7 * (4 - r)) = d * 2 ^ (7 * (4 - r)) + val (e :: l) * 2 ^ (7 * (5 - r)) := by
          rw [hp, val, Nat.add_mul, Nat.mul_comm 128, Nat.mul_assoc]
        rw [e1] at hv ⊢
        rw [getL, if_neg (by omega), ha, hm, if_neg (by omega), if_neg (by omega), ih r (i + 1) (v0 + d * 2 ^ (7 * (4 - r))) behind (by simp) (fun x hx => hd x (by simp [hx])) (by omega) h2 (by omega)]
        by_cases hl : (e :: l).length ≤ r
        · rw [if_pos hl, if_pos (by simp at hl ⊢; omega)]
          simp only [List.length_cons]
          rw [show i + 1 + (l.length + 1) = i + (l.length + 1 + 1) by omega, Nat.add_assoc]
        · rw [if_neg hl, if_neg (by simp at hl ⊢; omega)]
theorem more_len (v : Nat) (h : v ≤ 2147483647) : (more v).length ≤ 5 := by
  have := loop_len v h
  rw [loop_more]; simp; omega
theorem head_mod (t : UInt8) (k v : Nat) (hk : k ≤ 8) (hv : v < 2 ^ k) : (headB t k v).toNat % 2 ^ k = v := by
  unfold headB
  rw [u8_toNat_ofNat (beside_lt t k v hk hv), Nat.mul_add_mod, Nat.mod_eq_of_lt hv]
theorem at_app (a : List UInt8) (x : UInt8) (l : List UInt8) : atB (a ++ x :: l) a.length = x.toNat := by
  unfold atB; simp [List.getD]
theorem get_back (ahead behind : List UInt8) (t : UInt8) (k v : Nat) (hk0 : 1 ≤ k) (hk : k ≤ 8) (hv : v ≤ 2147483647) :
    getOut (ahead ++ (putB t k v ++ behind)) ahead.length k = (v, ahead.length + (putB t k v).length, 0) := by
  have hp : 2 ^ k ≤ 2 ^ 8 := Nat.pow_le_pow_right (by omega) hk
  have hp0 : 0 < 2 ^ k := Nat.two_pow_pos k
  unfold putB
  split
  · rename_i h
    unfold getOut
    rw [if_neg (by simp; omega), if_neg (by simp; omega)]
    simp only [toNat_cast, List.cons_append, List.nil_append, at_app, head_mod t k v hk (by omega)]
    rw [if_pos h]; rfl
  · rename_i h
    unfold getOut
    rw [if_neg (by simp; omega), if_neg (by simp; omega)]
    simp only [toNat_cast, List.cons_append, at_app, head_mod t k (2 ^ k - 1) hk (by omega)]
    rw [if_neg (by omega)]
    have hm := more_len (v - (2 ^ k - 1)) (by omega)
    rw [← digs_enc] at hm ⊢
    rw [enc_len] at hm
    rw [getL_enc _ (digs (v - (2 ^ k - 1))) 5 (ahead.length + 1) (2 ^ k - 1) behind (digs_ne _) (digs_lt _) (Nat.le_refl _) (by rw [← List.drop_drop, List.drop_left]; rfl) (by rw [digs_val]; simp; omega), if_pos hm, digs_val, List.length_cons, enc_len]
    simp; omega
theorem putB_len (t : UInt8) (k v : Nat) : (putB t k v).length = if v < 2 ^ k - 1 then 1 else (more (v - (2 ^ k - 1))).length + 1 := by
  unfold putB; split <;> simp
theorem putB_pos (t : UInt8) (k v : Nat) : 1 ≤ (putB t k v).length := by rw [putB_len]; split <;> omega
end Go.Proofs.Ytlkinjlbaeigdaa.sb
