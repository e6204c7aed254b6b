/- What a packer writes, an unpacker reads: the mathematics. -/
import Derived.Test.YtlkinjlbaeigdaaSz9
import Derived.Test.YtlkinjlbaeigdaaRows
import Derived.Test.YtlkinjlbaeigdaaLupH8
import Derived.Test.YtlkinjlbaeigdaaLpkC
import Derived.Test.YtlkinjlbaeigdaaLhfTu
import Derived.Test.YtlkinjlbaeigdaaLs3b8
set_option maxRecDepth 20000
set_option linter.unusedSimpArgs false
set_option linter.unusedVariables false
namespace Go.Proofs.Ytlkinjlbaeigdaa.pb
open Go Go.Ev Go.Sy Go.RowKit Go.Proofs.Ytlkinjlbaeigdaa.gl Go.Proofs.Ytlkinjlbaeigdaa.tk Go.Proofs.Ytlkinjlbaeigdaa.hf Go.Proofs.Ytlkinjlbaeigdaa.s3 Go.Proofs.Ytlkinjlbaeigdaa.tb Go.Proofs.Ytlkinjlbaeigdaa.up
def shr (l : List Fl) (n : Int) : List Fl := l.take (kpN l n l.length)
theorem nu_back (b pre rest : List UInt8) (t : UInt8) (n v : Nat) (h1 : 1 ≤ n) (h8 : n ≤ 8) (hv : v ≤ 2147483647) (hb : b = pre ++ (putB t n v ++ rest)) : nuR b pre.length n = ⟨0, (pre ++ putB t n v).length, v⟩ := by
  have e : getOut b pre.length n = (v, pre.length + (putB t n v).length, 0) := by rw [hb]; exact Go.Proofs.Ytlkinjlbaeigdaa.sb.get_back pre rest t n v h1 h8 hv
  unfold nuR
  rw [e]; simp
theorem head_nat (t : UInt8) (k v : Nat) (hk : k ≤ 8) (hv : v < 2 ^ k) : (headB t k v).toNat = 2 ^ k * (t.toNat / 2 ^ k) + v := by
  unfold headB
  rw [u8_toNat_ofNat (beside_lt t k v hk hv)]
theorem at_put (b pre rest : List UInt8) (t : UInt8) (k v : Nat) (hk : k ≤ 8) (hb : b = pre ++ (putB t k v ++ rest)) : pre.length < b.length ∧ 2 ^ k * (t.toNat / 2 ^ k) ≤ atB b pre.length ∧ atB b pre.length < 2 ^ k * (t.toNat / 2 ^ k) + 2 ^ k := by
  have hp0 : 0 < 2 ^ k := Nat.two_pow_pos k
  have : ∃ w r, w < 2 ^ k ∧ putB t k v = headB t k w :: r := by
    unfold putB; split
    · exact ⟨v, [], by omega, rfl⟩
    · exact ⟨2 ^ k - 1, _, by omega, rfl⟩
  obtain ⟨w, r, hw, e⟩ := this
  have hb2 : b = pre ++ headB t k w :: (r ++ rest) := by rw [hb, e]; rfl
  have ha : atB b pre.length = 2 ^ k * (t.toNat / 2 ^ k) + w := by rw [hb2, Go.Proofs.Ytlkinjlbaeigdaa.sb.at_app, head_nat t k w hk hw]
  refine ⟨by rw [hb2]; simp, by omega, by omega⟩
theorem raw_at (b pre hd s rest : List UInt8) (hb : b = pre ++ (hd ++ (s ++ rest))) : (b.drop (pre ++ hd).length).take s.length = s := by
  have : b = (pre ++ hd) ++ (s ++ rest) := by rw [hb]; simp
  rw [this, List.drop_left, List.take_left]
theorem tx_back (b pre rest s : List UInt8) (hs : s.length ≤ 60000) (hb : b = pre ++ (Go.Proofs.Ytlkinjlbaeigdaa.pk.txL s ++ rest)) : txR b pre.length = ⟨0, (pre ++ Go.Proofs.Ytlkinjlbaeigdaa.pk.txL s).length, s⟩ := by
  have el := Go.Proofs.Ytlkinjlbaeigdaa.pk.encL_le s
  unfold Go.Proofs.Ytlkinjlbaeigdaa.pk.txL at hb ⊢
  split at hb
  · rename_i hc
    rw [if_pos hc]
    have hb' : b = pre ++ (putB 128 7 ((szN s + 7) / 8) ++ (encL s ++ rest)) := by rw [hb]; simp
    obtain ⟨a1, a2, a3⟩ := at_put b pre _ 128 7 _ (by omega) hb'
    have hn := nu_back b pre _ 128 7 _ (by omega) (by omega) (by omega) hb'
    have hr := raw_at b pre _ (encL s) rest hb'
    rw [el] at hr
    have hl : b.length = (pre ++ putB 128 7 ((szN s + 7) / 8)).length + (encL s).length + rest.length := by rw [hb']; simp; omega
    have e7 : 2 ^ 7 * ((128 : UInt8).toNat / 2 ^ 7) = 128 := rfl
    rw [e7] at a2
    unfold txR
    rw [hn]
    simp only [hr]
    have hd : decE (encL s) = 0 := by unfold decE; rw [dec_back]; rfl
    have ht : decT (encL s) = s := by unfold decT; rw [dec_back]; rfl
    rw [hd, ht, if_neg (by omega), if_neg (by simp), if_neg (by omega), if_neg (by omega), if_neg (by omega), if_neg (by simp), if_neg (by omega)]
    rw [← el]; simp [List.length_append, Nat.add_assoc]
  · rename_i hc
    rw [if_neg hc]
    have hb' : b = pre ++ (putB 0 7 s.length ++ (s ++ rest)) := by rw [hb]; simp
    obtain ⟨a1, a2, a3⟩ := at_put b pre _ 0 7 _ (by omega) hb'
    have hn := nu_back b pre _ 0 7 _ (by omega) (by omega) (by omega) hb'
    have hr := raw_at b pre _ s rest hb'
    have hl : b.length = (pre ++ putB 0 7 s.length).length + s.length + rest.length := by rw [hb']; simp; omega
    have e7 : 2 ^ 7 * ((0 : UInt8).toNat / 2 ^ 7) + 2 ^ 7 = 128 := rfl
    rw [e7] at a3
    unfold txR
    rw [hn]
    simp only [hr]
    rw [if_neg (by omega), if_neg (by simp), if_neg (by omega), if_neg (by omega), if_pos (by omega)]
    simp [List.length_append, Nat.add_assoc]
theorem fnd_cases (l : List Fl) (f : Fl) : ∃ q : Nat, (fndF l f).1 = q ∧ q ≤ 61 + l.length ∧ ((fndF l f).2 = true → 1 ≤ q ∧ (getF l q).1 = f) ∧ (q ≠ 0 → (getF l q).2 = true ∧ (getF l q).1.n = f.n) := by
  rcases fnd_spec l f (61 + l.length) 1 0 (by omega) (by omega) (.inl rfl) with ⟨r1, j, r2, r3, r4, r5, _⟩ | ⟨r1, _, r3⟩
  · exact ⟨j, r2, r4, fun _ => ⟨r3, r5⟩, fun _ => ⟨getF_ok l j r3 r4, by rw [r5]⟩⟩
  · rcases r3 with r | ⟨j, r2, r3, r4, r5⟩
    · exact ⟨0, r, by omega, fun h => by rw [show (fndF l f).2 = _ from r1] at h; simp at h, fun h => absurd rfl h⟩
    · exact ⟨j, r2, r4, fun h => by rw [show (fndF l f).2 = _ from r1] at h; simp at h, fun _ => ⟨getF_ok l j r3 r4, r5⟩⟩
theorem li_back (l : List Fl) (b pre rest : List UInt8) (f : Fl) (t : UInt8) (n q : Nat) (h1 : 1 ≤ n) (h8 : n ≤ 8) (hq : q ≤ 2147483647) (hn : f.n.length ≤ 60000) (hv : f.v.length ≤ 60000) (hg : q ≠ 0 → (getF l q).2 = true ∧ (getF l q).1.n = f.n)
    (hb : b = pre ++ ((putB t n q ++ ((if q = 0 then Go.Proofs.Ytlkinjlbaeigdaa.pk.txL f.n else []) ++ Go.Proofs.Ytlkinjlbaeigdaa.pk.txL f.v)) ++ rest)) : liR l b pre.length n = ⟨0, (pre ++ (putB t n q ++ ((if q = 0 then Go.Proofs.Ytlkinjlbaeigdaa.pk.txL f.n else []) ++ Go.Proofs.Ytlkinjlbaeigdaa.pk.txL f.v))).length, f⟩ := by
  have hb1 : b = pre ++ (putB t n q ++ (((if q = 0 then Go.Proofs.Ytlkinjlbaeigdaa.pk.txL f.n else []) ++ Go.Proofs.Ytlkinjlbaeigdaa.pk.txL f.v) ++ rest)) := by rw [hb]; simp
  have e1 := nu_back b pre _ t n q h1 h8 hq hb1
  unfold liR lvR
  rw [e1]
  simp only [ne_eq, not_true_eq_false, if_false]
  by_cases h0 : q = 0
  · subst h0
    simp only [if_true] at hb hb1 ⊢
    have hb2 : b = (pre ++ putB t n 0) ++ (Go.Proofs.Ytlkinjlbaeigdaa.pk.txL f.n ++ (Go.Proofs.Ytlkinjlbaeigdaa.pk.txL f.v ++ rest)) := by rw [hb]; simp
    have hb3 : b = (pre ++ putB t n 0 ++ Go.Proofs.Ytlkinjlbaeigdaa.pk.txL f.n) ++ (Go.Proofs.Ytlkinjlbaeigdaa.pk.txL f.v ++ rest) := by rw [hb]; simp
    have t1 := tx_back b _ _ f.n hn hb2
    have t2 := tx_back b _ _ f.v hv hb3
    simp only [t1, t2]
    simp [List.append_assoc]
  · obtain ⟨g1, g2⟩ := hg h0
    simp only [h0, if_false, List.nil_append] at hb hb1 ⊢
    have hb2 : b = (pre ++ putB t n q) ++ (Go.Proofs.Ytlkinjlbaeigdaa.pk.txL f.v ++ rest) := by rw [hb]; simp
    have t2 := tx_back b _ _ f.v hv hb2
    simp only [g1, g2, t2]
    simp [List.append_assoc]
end Go.Proofs.Ytlkinjlbaeigdaa.pb
