/- What a packer writes, an unpacker reads: tables made smaller, whole blocks. -/
import Derived.Test.YtlkinjlbaeigdaaSz9
import Derived.Test.YtlkinjlbaeigdaaRows
import Derived.Test.YtlkinjlbaeigdaaLupK8
import Derived.Test.YtlkinjlbaeigdaaLpkD
set_option maxRecDepth 20000
set_option linter.unusedSimpArgs false
set_option linter.unusedVariables false
namespace Go.Proofs.Ytlkinjlbaeigdaa.pb
open Go Go.Ev Go.Sy Go.RowKit Go.Proofs.Ytlkinjlbaeigdaa.gl Go.Proofs.Ytlkinjlbaeigdaa.tk Go.Proofs.Ytlkinjlbaeigdaa.hf Go.Proofs.Ytlkinjlbaeigdaa.s3 Go.Proofs.Ytlkinjlbaeigdaa.tb Go.Proofs.Ytlkinjlbaeigdaa.up
open Go.Proofs.Ytlkinjlbaeigdaa.pk (rowL rowU hdL txL blk szs)
def KP (l : List Fl) (room : Int) (k p : Nat) : Prop := p ≤ k ∧ (smN (l.take p) : Int) ≤ room ∧ ∀ j, p < j → j ≤ k → room < (smN (l.take j) : Int)
def RelT (pb : Bool) (k : Int) (u t : Tb) : Prop := (pb = false → SameT u t) ∧ (pb = true → 0 ≤ k ∧ k ≤ t.most ∧ t.l = shr u.l k)
theorem kp_spec (l : List Fl) (room : Int) (h : 0 ≤ room) : ∀ k, KP l room k (kpN l room k)
  | 0 => ⟨Nat.le_refl _, by simp only [kpN, List.take_zero]; exact h, fun j a b => by simp only [kpN] at a; omega⟩
  | k + 1 => by
    obtain ⟨i1, i2, i3⟩ := kp_spec l room h k
    unfold kpN
    by_cases g : (smN (l.take (k + 1)) : Int) > room
    · rw [if_pos g]
      refine ⟨by omega, i2, fun j a b => ?_⟩
      by_cases e : j = k + 1
      · rw [e]; omega
      · exact i3 j a (by omega)
    · rw [if_neg g]
      exact ⟨Nat.le_refl _, by omega, fun j a b => by omega⟩
theorem kp_uni {l : List Fl} {room : Int} {k p q : Nat} (hp : KP l room k p) (hq : KP l room k q) : p = q := by
  obtain ⟨a1, a2, a3⟩ := hp
  obtain ⟨b1, b2, b3⟩ := hq
  rcases Nat.lt_trichotomy p q with h | h | h
  · have := a3 q h b1; omega
  · exact h
  · have := b3 p h a1; omega
theorem sm_app (a b : List Fl) : smN (a ++ b) = smN a + smN b := by unfold smN; rw [List.map_append, List.sum_append]
theorem sm_take_mono (l : List Fl) (p q : Nat) (h : p ≤ q) : smN (l.take p) ≤ smN (l.take q) := by
  have : l.take p = (l.take q).take p := by rw [List.take_take, Nat.min_eq_left h]
  rw [this]
  have h2 : smN (l.take q) = smN ((l.take q).take p) + smN ((l.take q).drop p) := by rw [← sm_app, List.take_append_drop]
  omega
theorem shr_shr (l : List Fl) (a b : Int) (ha : 0 ≤ a) (hb : 0 ≤ b) : shr (shr l a) b = shr l (min a b) := by
  obtain ⟨p1, p2, p3⟩ := kp_spec l a ha l.length
  generalize hp : kpN l a l.length = p at *
  have e1 : shr l a = l.take p := by unfold shr; rw [hp]
  have hl : (l.take p).length = p := by rw [List.length_take]; omega
  obtain ⟨q1, q2, q3⟩ := kp_spec (l.take p) b hb (l.take p).length
  generalize hq : kpN (l.take p) b (l.take p).length = q at *
  have e2 : shr (l.take p) b = (l.take p).take q := by unfold shr; rw [hq]
  rw [e1, e2, List.take_take]
  rw [hl] at q1 q3
  rw [Nat.min_eq_left q1]
  rw [List.take_take, Nat.min_eq_left q1] at q2
  have hm := sm_take_mono l q p q1
  have hk : KP l (min a b) l.length q := by
    refine ⟨by omega, by omega, fun j c d => ?_⟩
    by_cases e : j ≤ p
    · have := q3 j c e
      rw [List.take_take, Nat.min_eq_left e] at this
      omega
    · have := p3 j (by omega) d
      omega
  have := kp_uni hk (kp_spec l (min a b) (by omega) l.length)
  unfold shr
  rw [this]
theorem rsT_l (t : Tb) (n : Int) (h0 : 0 ≤ n) (h1 : n ≤ 65536) : (rsT t n).l = shr t.l n ∧ (rsT t n).most = n := by
  have : rsT t n = ⟨t.l.take (kpN t.l n t.l.length), t.l.drop (kpN t.l n t.l.length) ++ t.j, n⟩ := if_neg (by omega)
  rw [this]; exact ⟨rfl, rfl⟩
theorem rel_res (pb : Bool) (k n : Int) (u t : Tb) (h : RelT pb k u t) (h0 : 0 ≤ n) (h1 : n ≤ 65536) : RelT true (if pb then (if n < k then n else k) else n) u (rsT t n) := by
  obtain ⟨r1, r2⟩ := rsT_l t n h0 h1
  refine ⟨fun e => by simp at e, fun _ => ?_⟩
  cases pb with
  | false =>
    obtain ⟨a1, a2⟩ := h.1 rfl
    refine ⟨h0, by rw [r2]; exact Int.le_refl _, by rw [r1, ← a1]; rfl⟩
  | true =>
    obtain ⟨a1, a2, a3⟩ := h.2 rfl
    simp only [if_true]
    rw [r1, r2, a3, shr_shr _ _ _ a1 h0]
    split
    · exact ⟨h0, Int.le_refl _, by rw [Int.min_eq_right (by omega)]⟩
    · exact ⟨a1, by omega, by rw [Int.min_eq_left (by omega)]⟩
theorem runO_step (x : Cx) (k : Nat) (s s' : St) (hi : s.i < x.b.length) (h : Go.Proofs.Ytlkinjlbaeigdaa.up.step x s = ⟨0, s'⟩) : Go.Proofs.Ytlkinjlbaeigdaa.up.runO x (k + 1) s = Go.Proofs.Ytlkinjlbaeigdaa.up.runO x k s' := by
  rw [Go.Proofs.Ytlkinjlbaeigdaa.up.runO, if_neg (by omega), h, if_neg (by simp)]
theorem blk_ge : ∀ (wl : List PW) (t : Tb), wl.length ≤ (blk wl t).1.length
  | [], _ => Nat.zero_le _
  | w :: wl, t => by
    have := blk_ge wl (rowU t w.f w.h)
    have hp := Go.Proofs.Ytlkinjlbaeigdaa.pk.rowL_pos t w.f w.h
    have e : (blk (w :: wl) t).1 = rowL t w.f w.h ++ (blk wl (rowU t w.f w.h)).1 := rfl
    rw [e, List.length_append, List.length_cons]; omega
theorem blo_back (top list : Int) (wl : List PW) (t u : Tb) (pb : Bool) (k : Int) (ho : Ok t) (hr : RelT pb k u t) (ht : t.most ≤ top) (htop : top ≤ 65536) (hf : ∀ w ∈ wl, w.f.n.length ≤ 60000 ∧ w.f.v.length ≤ 60000) (hs : (Go.Proofs.Ytlkinjlbaeigdaa.pk.wSum wl : Int) ≤ list) :
    ∃ v, SameT v (blk wl t).2 ∧ (blO ⟨top, list, szs t.most pb k ++ (blk wl t).1⟩ u).e = 0 ∧ (blO ⟨top, list, szs t.most pb k ++ (blk wl t).1⟩ u).s.W = blkW wl t ∧ (blO ⟨top, list, szs t.most pb k ++ (blk wl t).1⟩ u).s.t = v := by
  have hge := blk_ge wl t
  cases pb with
  | false =>
    have e : szs t.most false k = [] := rfl
    rw [e]
    obtain ⟨v, v1, v2⟩ := run_back ⟨top, list, [] ++ (blk wl t).1⟩ wl [] (st0 u) t ([] ++ (blk wl t).1).length hge hf rfl rfl (hr.1 rfl) ho (by show (0 : Int) + _ ≤ list; omega)
    have v2' : blO ⟨top, list, [] ++ (blk wl t).1⟩ u = _ := v2
    rw [v2']
    exact ⟨v, v1, rfl, rfl, rfl⟩
  | true =>
    obtain ⟨k0, k1, k2⟩ := hr.2 rfl
    obtain ⟨o1, o2, o3⟩ := ho
    by_cases hm : t.most > k
    · have e : szs t.most true k = putB 32 5 k.toNat ++ putB 32 5 t.most.toNat := by unfold szs; rw [if_pos rfl, if_pos hm]
      rw [e]
      generalize hB : putB 32 5 k.toNat ++ putB 32 5 t.most.toNat ++ (blk wl t).1 = B
      have p1 := Go.Proofs.Ytlkinjlbaeigdaa.sb.putB_len 32 5 k.toNat
      have hp1 : 1 ≤ (putB 32 5 k.toNat).length := by rw [p1]; split <;> omega
      have hp2 : 1 ≤ (putB 32 5 t.most.toNat).length := by rw [Go.Proofs.Ytlkinjlbaeigdaa.sb.putB_len]; split <;> omega
      have hl : B.length = (putB 32 5 k.toNat).length + (putB 32 5 t.most.toNat).length + (blk wl t).1.length := by rw [← hB]; simp [Nat.add_assoc]
      obtain ⟨q, hq⟩ : ∃ q, B.length = q + 1 + 1 := ⟨B.length - 2, by omega⟩
      have s1 : Go.Proofs.Ytlkinjlbaeigdaa.up.step ⟨top, list, B⟩ (st0 u) = ⟨0, ⟨([] ++ putB 32 5 k.toNat).length, [], 0, 0 + 1, rsT u (k.toNat : Nat)⟩⟩ := step_size ⟨top, list, B⟩ (st0 u) [] (putB 32 5 t.most.toNat ++ (blk wl t).1) k.toNat (by simp [← hB]) rfl rfl (by show (0 : Int) < 2; omega) (by simp only; omega) htop
      have s2 := step_size ⟨top, list, B⟩ ⟨([] ++ putB 32 5 k.toNat).length, [], 0, 0 + 1, rsT u (k.toNat : Nat)⟩ (putB 32 5 k.toNat) ((blk wl t).1) t.most.toNat (by simp [← hB]) (by simp) rfl (by show (0 : Int) + 1 < 2; omega) (by simp only; omega) htop
      have hst : SameT (rsT (rsT u (k.toNat : Nat)) (t.most.toNat : Nat)) t := by
        have c1 : ((k.toNat : Nat) : Int) = k := by omega
        have c2 : ((t.most.toNat : Nat) : Int) = t.most := by omega
        obtain ⟨b1, b2⟩ := rsT_l u k k0 (by omega)
        obtain ⟨b3, b4⟩ := rsT_l (rsT u k) t.most o2 o3
        rw [c1, c2]
        exact ⟨by rw [b3, b1, shr_shr _ _ _ k0 o2, Int.min_eq_left k1, k2], b4⟩
      obtain ⟨v, v1, v2⟩ := run_back ⟨top, list, B⟩ wl (putB 32 5 k.toNat ++ putB 32 5 t.most.toNat) ⟨(putB 32 5 k.toNat ++ putB 32 5 t.most.toNat).length, [], 0, 0 + 1 + 1, rsT (rsT u (k.toNat : Nat)) (t.most.toNat : Nat)⟩ t q (by omega) hf hB.symm rfl hst ⟨o1, o2, o3⟩ (by simp only; omega)
      have r : blO ⟨top, list, B⟩ u = Go.Proofs.Ytlkinjlbaeigdaa.up.runO ⟨top, list, B⟩ q ⟨(putB 32 5 k.toNat ++ putB 32 5 t.most.toNat).length, [], 0, 0 + 1 + 1, rsT (rsT u (k.toNat : Nat)) (t.most.toNat : Nat)⟩ := by
        show Go.Proofs.Ytlkinjlbaeigdaa.up.runO ⟨top, list, B⟩ B.length (st0 u) = _
        rw [hq, runO_step _ _ _ _ (by show 0 < B.length; omega) s1, runO_step _ _ _ _ (by show ([] ++ putB 32 5 k.toNat).length < B.length; simp; omega) s2]
      rw [r, v2]
      exact ⟨v, v1, rfl, rfl, rfl⟩
    · have e : szs t.most true k = putB 32 5 t.most.toNat := by unfold szs; rw [if_pos rfl, if_neg hm]; rfl
      have ek : k = t.most := by omega
      rw [e]
      generalize hB : putB 32 5 t.most.toNat ++ (blk wl t).1 = B
      have hp2 : 1 ≤ (putB 32 5 t.most.toNat).length := by rw [Go.Proofs.Ytlkinjlbaeigdaa.sb.putB_len]; split <;> omega
      have hl : B.length = (putB 32 5 t.most.toNat).length + (blk wl t).1.length := by rw [← hB]; simp
      obtain ⟨q, hq⟩ : ∃ q, B.length = q + 1 := ⟨B.length - 1, by omega⟩
      have s1 : Go.Proofs.Ytlkinjlbaeigdaa.up.step ⟨top, list, B⟩ (st0 u) = ⟨0, ⟨([] ++ putB 32 5 t.most.toNat).length, [], 0, 0 + 1, rsT u (t.most.toNat : Nat)⟩⟩ := step_size ⟨top, list, B⟩ (st0 u) [] ((blk wl t).1) t.most.toNat (by simp [← hB]) rfl rfl (by show (0 : Int) < 2; omega) (by simp only; omega) htop
      have hst : SameT (rsT u (t.most.toNat : Nat)) t := by
        have c2 : ((t.most.toNat : Nat) : Int) = t.most := by omega
        obtain ⟨b1, b2⟩ := rsT_l u t.most o2 o3
        rw [c2]
        exact ⟨by rw [b1, k2, ek], b2⟩
      obtain ⟨v, v1, v2⟩ := run_back ⟨top, list, B⟩ wl (putB 32 5 t.most.toNat) ⟨([] ++ putB 32 5 t.most.toNat).length, [], 0, 0 + 1, rsT u (t.most.toNat : Nat)⟩ t q (by omega) hf hB.symm (by simp) hst ⟨o1, o2, o3⟩ (by simp only; omega)
      have r : blO ⟨top, list, B⟩ u = Go.Proofs.Ytlkinjlbaeigdaa.up.runO ⟨top, list, B⟩ q ⟨([] ++ putB 32 5 t.most.toNat).length, [], 0, 0 + 1, rsT u (t.most.toNat : Nat)⟩ := by
        show Go.Proofs.Ytlkinjlbaeigdaa.up.runO ⟨top, list, B⟩ B.length (st0 u) = _
        rw [hq, runO_step _ _ _ _ (by show 0 < B.length; omega) s1]
      rw [r, v2]
      exact ⟨v, v1, rfl, rfl, rfl⟩
theorem hR_3 (t : Tb) (f : Fl) (h : Int) : hR t f h = 3 ↔ h = 3 := by
  unfold hR
  split
  · rename_i g; exact ⟨fun e => by simp at e, fun e => absurd e g.2⟩
  · split
    · rename_i g; rw [g]
    · split
      · rename_i g; simp [g]
      · rename_i g; simp [g]
theorem blkW_len : ∀ (wl : List PW) (t : Tb), (blkW wl t).length = wl.length
  | [], _ => rfl
  | w :: wl, t => by show (blkW wl _).length + 1 = wl.length + 1; rw [blkW_len wl]
theorem blkW_get : ∀ (wl : List PW) (t : Tb) (i : Nat) (h : i < wl.length) (h2 : i < (blkW wl t).length), (blkW wl t)[i].f = wl[i].f ∧ ((blkW wl t)[i].h = 3 ↔ wl[i].h = 3)
  | w :: wl, t, 0, _, _ => ⟨rfl, hR_3 t w.f w.h⟩
  | w :: wl, t, i + 1, h, h2 => blkW_get wl (rowU t w.f w.h) i (by simp at h; omega) _
end Go.Proofs.Ytlkinjlbaeigdaa.pb
