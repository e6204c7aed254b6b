/- Codes and texts: what is read of what is written. -/
import Derived.Test.YtbpeollodpjicaaSz9
import Derived.Test.YtbpeollodpjicaaRows
import Derived.Test.YtbpeollodpjicaaLhfD
set_option maxRecDepth 20000
set_option linter.unusedSimpArgs false
set_option linter.unusedVariables false
namespace Go.Proofs.Ytbpeollodpjicaa.hf
open Go Go.Ev Go.Sy Go.RowKit Go.Proofs.Ytbpeollodpjicaa.gl Go.Proofs.Ytbpeollodpjicaa.tk
theorem us_all : ∀ s : Fin 257, posN s.1 - stN (hLen s.1) < cntN (hLen s.1) ∧ stN (hLen s.1) ≤ posN s.1 ∧ stN (hLen (ordN s.1)) ≤ s.1 ∧ s.1 < stN (hLen (ordN s.1)) + cntN (hLen (ordN s.1)) := by decide +kernel
theorem st_all : ∀ n z : Fin 31, n.1 < z.1 → stN n.1 + cntN n.1 ≤ stN z.1 := by decide +kernel
theorem ones_all : ∀ k : Fin 30, cdN k.1 ≤ 2 ^ k.1 - 1 := by decide +kernel
theorem cdN_step (n : Nat) (h : n < 30) : cdN n * 2 ≤ cdN (n + 1) := by
  have := (cdN_all ⟨n, h⟩).1
  simp only at this
  omega
theorem cdN_up (k : Nat) : ∀ d, k + d ≤ 30 → cdN k * 2 ^ d ≤ cdN (k + d)
  | 0, _ => by simp
  | d + 1, h => by
    have h1 := cdN_up k d (by omega)
    have h2 := cdN_step (k + d) (by omega)
    rw [Nat.pow_succ, ← Nat.mul_assoc]
    have : k + (d + 1) = k + d + 1 := by omega
    rw [this]
    have h3 := Nat.mul_le_mul_right 2 h1
    omega
theorem fst_up (k z : Nat) (h : k < z) (hz : z ≤ 30) : cdN k * 2 ^ (z - k) ≤ fstN z := by
  have h1 := cdN_up k (z - 1 - k) (by omega)
  rw [show k + (z - 1 - k) = z - 1 by omega] at h1
  have h2 := (fst_in (z - 1) (by omega)).1
  rw [show z - 1 + 1 = z by omega] at h2
  rw [h2, show z - k = z - 1 - k + 1 by omega, Nat.pow_succ, ← Nat.mul_assoc]
  exact Nat.mul_le_mul_right 2 h1
theorem code_eq (s : Nat) (h : s < 257) : fstN (hLen s) ≤ codeN s ∧ codeN s - fstN (hLen s) < cntN (hLen s) ∧ stN (hLen s) + (codeN s - fstN (hLen s)) = posN s ∧ codeN s < cdN (hLen s) := by
  obtain ⟨h1, h2, _, _⟩ := us_all ⟨s, h⟩
  simp only at h1 h2
  have h3 := code_p s h
  unfold codeP at h3
  have hb := len_bd s h
  have hc : cdN (hLen s) = fstN (hLen s) + cntN (hLen s) := by unfold cdN; rw [if_neg (by omega)]
  omega
theorem sym_none (v n : Nat) (h : cdN n ≤ v) (hn : 0 < n) : symO v n = none := by
  have hc : cdN n = fstN n + cntN n := by unfold cdN; rw [if_neg (by omega)]
  unfold symO; rw [if_neg (by omega)]
theorem sym_code (s : Nat) (h : s < 257) : symO (codeN s) (hLen s) = some s := by
  obtain ⟨h1, h2, h3, _⟩ := code_eq s h
  unfold symO
  rw [if_pos ⟨h1, h2⟩, h3, (pos_in s h).2.1]
theorem sym_back {v n s : Nat} (hn : n ≤ 30) (h : symO v n = some s) : s < 257 ∧ hLen s = n ∧ codeN s = v := by
  unfold symO at h
  split at h
  · rename_i hc
    simp only [Option.some.injEq] at h
    have hst : ∀ k : Fin 31, stN k.1 + cntN k.1 ≤ 257 := by decide +kernel
    have hr : stN n + (v - fstN n) < 257 := by have := hst ⟨n, by omega⟩; simp only at this; omega
    obtain ⟨_, _, p3, p4⟩ := pos_in _ hr
    obtain ⟨_, _, u3, u4⟩ := us_all ⟨_, hr⟩
    simp only at u3 u4
    rw [h] at p3 p4 u3 u4
    have hz := len_bd s p3
    have e : hLen s = n := by
      rcases Nat.lt_trichotomy n (hLen s) with hl | hl | hl
      · have := st_all ⟨n, by omega⟩ ⟨hLen s, by omega⟩ hl; simp only at this; omega
      · exact hl.symm
      · have := st_all ⟨hLen s, by omega⟩ ⟨n, by omega⟩ hl; simp only at this; omega
    refine ⟨p3, e, ?_⟩
    have := code_eq s p3
    rw [e] at this
    omega
  · cases h
theorem dec_pre (s : Nat) (h : s < 257) (o : List UInt8) : ∀ k, k < hLen s → decS ((cB s).take k) (o, []) = some (o, (cB s).take k)
  | 0, _ => rfl
  | k + 1, hk => by
    have hl := cB_len s
    have hb := len_bd s h
    have hkl : k < (cB s).length := by omega
    have ht : (cB s).take (k + 1) = (cB s).take k ++ [(cB s)[k]] := by rw [List.take_add_one, List.getElem?_eq_getElem hkl]; rfl
    have hv := (val_take (cB s) (k + 1) (by omega)).1
    rw [cB_val s h, hl] at hv
    have hf := fst_up (k + 1) (hLen s) (by omega) hb.2
    have hc := (code_eq s h).1
    have hp : 0 < 2 ^ (hLen s - (k + 1)) := Nat.two_pow_pos _
    have hn : symO (val ((cB s).take (k + 1))) (k + 1) = none := by
      refine sym_none _ _ ?_ (by omega)
      rw [hv]
      exact (Nat.le_div_iff_mul_le hp).2 (by omega)
    have hlen : ((cB s).take k).length = k := by rw [List.length_take]; omega
    rw [ht, decS_app, dec_pre s h o k (by omega), Option.bind_some, decS_one]
    unfold stepD
    simp only [hlen]
    rw [← ht, hn]
theorem dec_sym (s : Nat) (h : s < 257) (o : List UInt8) : decS (cB s) (o, []) = if s = 256 then none else some (o ++ [UInt8.ofNat s], []) := by
  have hl := cB_len s
  have hb := len_bd s h
  have hkl : hLen s - 1 < (cB s).length := by omega
  have ht : cB s = (cB s).take (hLen s - 1) ++ [(cB s)[hLen s - 1]] := by
    conv => lhs; rw [← List.take_of_length_le (l := cB s) (i := hLen s - 1 + 1) (by omega)]
    rw [List.take_add_one, List.getElem?_eq_getElem hkl]; rfl
  have hlen : ((cB s).take (hLen s - 1)).length = hLen s - 1 := by rw [List.length_take]; omega
  have hd := dec_pre s h o (hLen s - 1) (by omega)
  have h1 : decS (cB s) (o, []) = decS ((cB s).take (hLen s - 1) ++ [(cB s)[hLen s - 1]]) (o, []) := by rw [← ht]
  rw [h1, decS_app, hd, Option.bind_some, decS_one]
  unfold stepD
  simp only [hlen]
  rw [← ht, cB_val s h, show hLen s - 1 + 1 = hLen s by omega, sym_code s h]
theorem dec_enc : ∀ (l o : List UInt8), decS (encB l) (o, []) = some (o ++ l, [])
  | [], o => by simp [encB, decS]
  | c :: l, o => by
    have hc := c.toNat_lt
    have e : encB (c :: l) = cB c.toNat ++ encB l := by unfold encB; rw [List.flatMap_cons]
    rw [e, decS_app, dec_sym c.toNat (by omega), if_neg (by omega), Option.bind_some, dec_enc l]
    simp
theorem dec_ones (o : List UInt8) : ∀ k, k < 30 → decS (List.replicate k true) (o, []) = some (o, List.replicate k true)
  | 0, _ => rfl
  | k + 1, h => by
    have hs : List.replicate (k + 1) true = List.replicate k true ++ [true] := by rw [← List.replicate_succ']
    have hn : symO (val (List.replicate (k + 1) true)) (k + 1) = none := by
      refine sym_none _ _ ?_ (by omega)
      rw [val_ones]; exact ones_all ⟨k + 1, h⟩
    rw [hs, decS_app, dec_ones o k (by omega), Option.bind_some, decS_one]
    unfold stepD
    simp only [List.length_replicate]
    rw [← hs, hn]
theorem by_bl (x : List Bool) (h : x.length = 8) : bl 8 (byN x).toNat = x := by
  have hv := val_lt x
  rw [h] at hv
  unfold byN
  rw [u8_toNat_ofNat (by omega)]
  have := bl_val x
  rw [h] at this
  exact this
theorem bit_byts : ∀ (n : Nat) (b : List Bool), b.length ≤ n → bitB (byts b) ++ rest b = b := by
  intro n
  induction n using Nat.strongRecOn with
  | _ n ih =>
    intro b h
    by_cases h8 : 8 ≤ b.length
    · have := ih (n - 8) (by omega) (b.drop 8) (by rw [List.length_drop]; omega)
      have e : ∀ (c : UInt8) (l : List UInt8), bitB (c :: l) = bl 8 c.toNat ++ bitB l := fun c l => by unfold bitB; rw [List.flatMap_cons]
      rw [byts_ge b h8, rest_ge b h8, e, List.append_assoc, this, by_bl _ (by rw [List.length_take]; omega), List.take_append_drop]
    · rw [byts_lt b (by omega), rest_lt b (by omega)]; rfl
theorem byts_bit : ∀ l : List UInt8, byts (bitB l) = l
  | [] => by rw [byts_lt _ (by decide)]
  | c :: l => by
    have hc := c.toNat_lt
    have e : bitB (c :: l) = bl 8 c.toNat ++ bitB l := by unfold bitB; rw [List.flatMap_cons]
    have hl : (bl 8 c.toNat).length = 8 := bl_len _ _
    rw [e, byts_ge _ (by rw [List.length_append]; omega), List.take_append_of_le_length (by omega), List.drop_append_of_le_length (by omega), List.take_of_length_le (by omega), List.drop_eq_nil_of_le (by omega), List.nil_append, byts_bit l]
    unfold byN
    rw [val_bl, Nat.mod_eq_of_lt (by omega), UInt8.ofNat_toNat]
theorem bit_len (l : List UInt8) : (bitB l).length = 8 * l.length := by
  induction l with
  | nil => rfl
  | cons c l ih =>
    have e : bitB (c :: l) = bl 8 c.toNat ++ bitB l := by unfold bitB; rw [List.flatMap_cons]
    rw [e, List.length_append, bl_len, ih, List.length_cons]; omega
theorem padd_len (b : List Bool) : (padd b).length % 8 = 0 := by unfold padd; rw [List.length_append, List.length_replicate]; omega
theorem bit_enc (l : List UInt8) : bitB (encL l) = padd (encB l) := by
  have h := bit_byts _ (padd (encB l)) (Nat.le_refl _)
  rw [rest_byts _ (padd_len _), List.append_nil] at h
  exact h
theorem encL_len (l : List UInt8) : 8 * (encL l).length ≤ 30 * l.length + 7 := by
  have h := congrArg List.length (bit_enc l)
  rw [bit_len] at h
  have := encB_len l
  unfold padd at h
  rw [List.length_append, List.length_replicate] at h
  omega
theorem dec_back (l : List UInt8) : decR (encL l) = some l := by
  unfold decR decO
  rw [bit_enc]
  unfold padd
  rw [decS_app, dec_enc, Option.bind_some, dec_ones _ _ (by omega), Option.bind_some]
  unfold finD
  rw [if_neg (fun h => h.elim (fun h => by simp only [List.length_replicate] at h; omega) (fun h => h (by simp only [List.length_replicate]; rw [val_ones])))]
  simp
theorem dec_inv : ∀ (b : List Bool) (o R o' R' : List _), PI R → decS b (o, R) = some (o', R') → ∃ new : List UInt8, o' = o ++ new ∧ R ++ b = encB new ++ R' ∧ PI R'
  | [], o, R, o', R', hp, h => by
    simp only [decS, Option.some.injEq, Prod.mk.injEq] at h
    obtain ⟨rfl, rfl⟩ := h
    exact ⟨[], by simp, by simp [encB], hp⟩
  | c :: b, o, R, o', R', hp, h => by
    rw [decS] at h
    unfold stepD at h
    simp only at h
    split at h
    · rename_i hs
      rw [Option.bind_some] at h
      obtain ⟨new, h1, h2, h3⟩ := dec_inv b o (R ++ [c]) o' R' (PI_step hp hs) h
      exact ⟨new, h1, by rw [← h2]; simp, h3⟩
    · rename_i y hs
      split at h
      · simp at h
      · rename_i hy
        rw [Option.bind_some] at h
        obtain ⟨new, h1, h2, h3⟩ := dec_inv b _ [] o' R' PI_nil h
        obtain ⟨s1, s2, s3⟩ := sym_back (by have := hp.1; omega) hs
        have hcb : cB y = R ++ [c] := by
          unfold cB
          rw [s2, s3]
          have := bl_val (R ++ [c])
          rwa [List.length_append, List.length_singleton] at this
        have hn : (UInt8.ofNat y).toNat = y := u8_toNat_ofNat (by omega)
        refine ⟨UInt8.ofNat y :: new, by rw [h1]; simp, ?_, h3⟩
        have e : encB (UInt8.ofNat y :: new) = cB (UInt8.ofNat y).toNat ++ encB new := by unfold encB; rw [List.flatMap_cons]
        rw [e, hn, hcb, List.append_assoc, ← h2]; simp
theorem dec_fin {l u : List UInt8} (h : decR l = some u) : ∃ R : List Bool, decO l = some (u, R) ∧ R.length ≤ 7 ∧ R = List.replicate R.length true ∧ bitB l = encB u ++ R := by
  unfold decR at h
  cases hd : decO l with
  | none => rw [hd] at h; simp at h
  | some y =>
    obtain ⟨o, R⟩ := y
    rw [hd, Option.bind_some] at h
    unfold finD at h
    split at h
    · cases h
    · rename_i hc
      simp only [Option.some.injEq] at h
      subst h
      simp only [gt_iff_lt, ne_eq, not_or, Nat.not_lt, Decidable.not_not] at hc
      obtain ⟨new, h1, h2, h3⟩ := dec_inv _ _ _ _ _ PI_nil hd
      refine ⟨R, rfl, hc.1, ?_, ?_⟩
      · exact val_inj (by simp) (by rw [val_ones]; exact hc.2)
      · rw [List.nil_append] at h1 h2; rw [h1]; exact h2
theorem enc_back {l u : List UInt8} (h : decR l = some u) : encL u = l := by
  obtain ⟨R, _, h1, h2, h3⟩ := dec_fin h
  have hl := congrArg List.length h3
  rw [bit_len, List.length_append] at hl
  have e : padd (encB u) = bitB l := by
    unfold padd
    rw [h3, show (8 - (encB u).length % 8) % 8 = R.length by omega, ← h2]
  unfold encL
  rw [e, byts_bit]
theorem enc_least (l : List UInt8) : 5 * l.length ≤ (encB l).length := by
  induction l with
  | nil => simp
  | cons c l ih =>
    have e : encB (c :: l) = cB c.toNat ++ encB l := by unfold encB; rw [List.flatMap_cons]
    have hb := len_bd c.toNat (by have := c.toNat_lt; omega)
    rw [e, List.length_append, cB_len, List.length_cons]; omega
theorem decT_len (l : List UInt8) : 5 * (decT l).length ≤ 8 * l.length := by
  unfold decT
  cases h : decR l with
  | none => simp
  | some u =>
    obtain ⟨R, _, _, _, h3⟩ := dec_fin h
    have hl := congrArg List.length h3
    rw [bit_len, List.length_append] at hl
    have := enc_least u
    simp only [Option.getD_some]; omega
theorem dec_part {s t x : List UInt8} (y : List UInt8) (hx : decR x = some t) (h : encL s = x ++ y) : ∃ z, s = t ++ z := by
  have h1 := dec_back s
  unfold decR decO at h1
  rw [h, bit_app, decS_app] at h1
  obtain ⟨R, h2, _, _, _⟩ := dec_fin hx
  unfold decO at h2
  rw [h2, Option.bind_some] at h1
  cases h3 : decS (bitB y) (t, R) with
  | none => rw [h3] at h1; simp at h1
  | some w =>
    obtain ⟨o, R'⟩ := w
    rw [h3, Option.bind_some] at h1
    unfold finD at h1
    split at h1
    · cases h1
    · simp only [Option.some.injEq] at h1
      subst h1
      have hp : PI R := by
        obtain ⟨_, _, _, h4⟩ := dec_inv _ _ _ _ _ PI_nil h2
        exact h4
      obtain ⟨new, h5, _, _⟩ := dec_inv _ _ _ _ _ hp h3
      exact ⟨new, h5⟩
theorem dec_more (s : List UInt8) : decR (encL s ++ [255]) = none := by
  have e : bitB [255] = List.replicate 8 true := by decide
  unfold decR decO
  rw [bit_app, e, bit_enc]
  unfold padd
  rw [List.append_assoc, List.replicate_append_replicate, decS_app, dec_enc, Option.bind_some, dec_ones _ _ (by omega), Option.bind_some]
  unfold finD
  rw [if_pos (Or.inl (by simp only [List.length_replicate]; omega))]
theorem used_mono (z : Nat) : ∀ (a b : Nat), a ≤ b → used z a ≤ used z b
  | a, 0, h => by rw [show a = 0 by omega]; exact Nat.le_refl _
  | a, b + 1, h => by
    by_cases e : a = b + 1
    · rw [e]; exact Nat.le_refl _
    · have := used_mono z a b (by omega)
      rw [used]; omega
theorem code_lt_of {x y : Nat} (h : hLen x = hLen y) (hxy : x < y) : codeN x < codeN y := by
  unfold codeN
  rw [h]
  have := used_mono (hLen y) (x + 1) y (by omega)
  rw [used, if_pos h] at this
  omega
theorem code_far {x y : Nat} (hx : x < 257) (hy : y < 257) (h : hLen x < hLen y) : (codeN x + 1) * 2 ^ (hLen y - hLen x) ≤ codeN y := by
  have h1 := (code_eq x hx).2.2.2
  have h2 := (code_eq y hy).1
  have h3 := fst_up (hLen x) (hLen y) h (len_bd y hy).2
  have h4 := Nat.mul_le_mul_right (2 ^ (hLen y - hLen x)) (show codeN x + 1 ≤ cdN (hLen x) from h1)
  omega
end Go.Proofs.Ytbpeollodpjicaa.hf
