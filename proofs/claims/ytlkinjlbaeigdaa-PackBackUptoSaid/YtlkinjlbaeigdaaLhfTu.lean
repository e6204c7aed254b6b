/- Codes and texts: what is read of what is written. -/
import Derived.Test.YtlkinjlbaeigdaaSz9
import Derived.Test.YtlkinjlbaeigdaaRows
import Derived.Test.YtlkinjlbaeigdaaLhfD8
set_option maxRecDepth 20000
set_option linter.unusedSimpArgs false
set_option linter.unusedVariables false
namespace Go.Proofs.Ytlkinjlbaeigdaa.hf
open Go Go.Ev Go.Sy Go.RowKit Go.Proofs.Ytlkinjlbaeigdaa.gl Go.Proofs.Ytlkinjlbaeigdaa.tk
theorem us_all : ∀ s : Fin 257, posN s.1 - stN (hLen s.1) < cntN (hLen s.1) ∧ stN (hLen s.1) ≤ posN s.1 ∧ stN (hLen (ordN s.1)) ≤ s.1 ∧ s.1 < stN (hLen (ordN s.1)) + cntN (hLen (ordN s.1)) := by decide +kernel
theorem ones_all : ∀ k : Fin 30, cdN k.1 ≤ 2 ^ k.1 - 1 := by decide +kernel
theorem cdN_step (n : Nat) (h : n < 30) : cdN n * 2 ≤ cdN (n + 1) := by
  have := (cdN_all ⟨n, h⟩).1
  simp only at this
  omega
theorem cdN_up (k : Nat) : ∀ d, k + d ≤ 30 → cdN k * 2 ^ d ≤ cdN (k + d)
  | 0, _ => by simp
  | d + 1, h => by
    have h1 := cdN_up k d (by omega)
    have h2 := cdN_step (k + d) (by omega)
    rw [Nat.pow_succ, ← Nat.mul_assoc]
    have : k + (d + 1) = k + d + 1 := by omega
    rw [this]
    have h3 := Nat.mul_le_mul_right 2 h1
    omega
theorem fst_up (k z : Nat) (h : k < z) (hz : z ≤ 30) : cdN k * 2 ^ (z - k) ≤ fstN z := by
  have h1 := cdN_up k (z - 1 - k) (by omega)
  rw [show k + (z - 1 - k) = z - 1 by omega] at h1
  have h2 := (fst_in (z - 1) (by omega)).1
  rw [show z - 1 + 1 = z by omega] at h2
  rw [h2, show z - k = z - 1 - k + 1 by omega, Nat.pow_succ, ← Nat.mul_assoc]
  exact Nat.mul_le_mul_right 2 h1
theorem code_eq (s : Nat) (h : s < 257) : fstN (hLen s) ≤ codeN s ∧ codeN s - fstN (hLen s) < cntN (hLen s) ∧ stN (hLen s) + (codeN s - fstN (hLen s)) = posN s ∧ codeN s < cdN (hLen s) := by
  obtain ⟨h1, h2, _, _⟩ := us_all ⟨s, h⟩
  simp only at h1 h2
  have h3 := code_p s h
  unfold codeP at h3
  have hb := len_bd s h
  have hc : cdN (hLen s) = fstN (hLen s) + cntN (hLen s) := by unfold cdN; rw [if_neg (by omega)]
  omega
theorem sym_none (v n : Nat) (h : cdN n ≤ v) (hn : 0 < n) : symO v n = none := by
  have hc : cdN n = fstN n + cntN n := by unfold cdN; rw [if_neg (by omega)]
  unfold symO; rw [if_neg (by omega)]
theorem sym_code (s : Nat) (h : s < 257) : symO (codeN s) (hLen s) = some s := by
  obtain ⟨h1, h2, h3, _⟩ := code_eq s h
  unfold symO
  rw [if_pos ⟨h1, h2⟩, h3, (pos_in s h).2.1]
theorem dec_pre (s : Nat) (h : s < 257) (o : List UInt8) : ∀ k, k < hLen s → decS ((cB s).take k) (o, []) = some (o, (cB s).take k)
  | 0, _ => rfl
  | k + 1, hk => by
    have hl := cB_len s
    have hb := len_bd s h
    have hkl : k < (cB s).length := by omega
    have ht : (cB s).take (k + 1) = (cB s).take k ++ [(cB s)[k]] := by rw [List.take_add_one, List.getElem?_eq_getElem hkl]; rfl
    have hv := (val_take (cB s) (k + 1) (by omega)).1
    rw [cB_val s h, hl] at hv
    have hf := fst_up (k + 1) (hLen s) (by omega) hb.2
    have hc := (code_eq s h).1
    have hp : 0 < 2 ^ (hLen s - (k + 1)) := Nat.two_pow_pos _
    have hn : symO (val ((cB s).take (k + 1))) (k + 1) = none := by
      refine sym_none _ _ ?_ (by omega)
      rw [hv]
      exact (Nat.le_div_iff_mul_le hp).2 (by omega)
    have hlen : ((cB s).take k).length = k := by rw [List.length_take]; omega
    rw [ht, decS_app, dec_pre s h o k (by omega), Option.bind_some, decS_one]
    unfold stepD
    simp only [hlen]
    rw [← ht, hn]
theorem dec_sym (s : Nat) (h : s < 257) (o : List UInt8) : decS (cB s) (o, []) = if s = 256 then none else some (o ++ [UInt8.ofNat s], []) := by
  have hl := cB_len s
  have hb := len_bd s h
  have hkl : hLen s - 1 < (cB s).length := by omega
  have ht : cB s = (cB s).take (hLen s - 1) ++ [(cB s)[hLen s - 1]] := by
    conv => lhs; rw [← List.take_of_length_le (l := cB s) (i := hLen s - 1 + 1) (by omega)]
    rw [List.take_add_one, List.getElem?_eq_getElem hkl]; rfl
  have hlen : ((cB s).take (hLen s - 1)).length = hLen s - 1 := by rw [List.length_take]; omega
  have hd := dec_pre s h o (hLen s - 1) (by omega)
  have h1 : decS (cB s) (o, []) = decS ((cB s).take (hLen s - 1) ++ [(cB s)[hLen s - 1]]) (o, []) := by rw [← ht]
  rw [h1, decS_app, hd, Option.bind_some, decS_one]
  unfold stepD
  simp only [hlen]
  rw [← ht, cB_val s h, show hLen s - 1 + 1 = hLen s by omega, sym_code s h]
theorem dec_enc : ∀ (l o : List UInt8), decS (encB l) (o, []) = some (o ++ l, [])
  | [], o => by simp [encB, decS]
  | c :: l, o => by
    have hc := c.toNat_lt
    have e : encB (c :: l) = cB c.toNat ++ encB l := by unfold encB; rw [List.flatMap_cons]
    rw [e, decS_app, dec_sym c.toNat (by omega), if_neg (by omega), Option.bind_some, dec_enc l]
    simp
theorem dec_ones (o : List UInt8) : ∀ k, k < 30 → decS (List.replicate k true) (o, []) = some (o, List.replicate k true)
  | 0, _ => rfl
  | k + 1, h => by
    have hs : List.replicate (k + 1) true = List.replicate k true ++ [true] := by rw [← List.replicate_succ']
    have hn : symO (val (List.replicate (k + 1) true)) (k + 1) = none := by
      refine sym_none _ _ ?_ (by omega)
      rw [val_ones]; exact ones_all ⟨k + 1, h⟩
    rw [hs, decS_app, dec_ones o k (by omega), Option.bind_some, decS_one]
    unfold stepD
    simp only [List.length_replicate]
    rw [← hs, hn]
theorem by_bl (x : List Bool) (h : x.length = 8) : bl 8 (byN x).toNat = x := by
  have hv := val_lt x
  rw [h] at hv
  unfold byN
  rw [u8_toNat_ofNat (by omega)]
  have := bl_val x
  rw [h] at this
  exact this
theorem bit_byts : ∀ (n : Nat) (b : List Bool), b.length ≤ n → bitB (byts b) ++ rest b = b := by
  intro n
  induction n using Nat.strongRecOn with
  | _ n ih =>
    intro b h
    by_cases h8 : 8 ≤ b.length
    · have := ih (n - 8) (by omega) (b.drop 8) (by rw [List.length_drop]; omega)
      have e : ∀ (c : UInt8) (l : List UInt8), bitB (c :: l) = bl 8 c.toNat ++ bitB l := fun c l => by unfold bitB; rw [List.flatMap_cons]
      rw [byts_ge b h8, rest_ge b h8, e, List.append_assoc, this, by_bl _ (by rw [List.length_take]; omega), List.take_append_drop]
    · rw [byts_lt b (by omega), rest_lt b (by omega)]; rfl
theorem padd_len (b : List Bool) : (padd b).length % 8 = 0 := by unfold padd; rw [List.length_append, List.length_replicate]; omega
theorem bit_enc (l : List UInt8) : bitB (encL l) = padd (encB l) := by
  have h := bit_byts _ (padd (encB l)) (Nat.le_refl _)
  rw [rest_byts _ (padd_len _), List.append_nil] at h
  exact h
theorem dec_back (l : List UInt8) : decR (encL l) = some l := by
  unfold decR decO
  rw [bit_enc]
  unfold padd
  rw [decS_app, dec_enc, Option.bind_some, dec_ones _ _ (by omega), Option.bind_some]
  unfold finD
  rw [if_neg (fun h => h.elim (fun h => by simp only [List.length_replicate] at h; omega) (fun h => h (by simp only [List.length_replicate]; rw [val_ones])))]
  simp
end Go.Proofs.Ytlkinjlbaeigdaa.hf
