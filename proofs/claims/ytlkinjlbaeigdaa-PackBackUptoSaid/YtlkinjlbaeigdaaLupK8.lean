/- What a packer writes, an unpacker reads: rows, sizes, blocks. -/
import Derived.Test.YtlkinjlbaeigdaaSz9
import Derived.Test.YtlkinjlbaeigdaaRows
import Derived.Test.YtlkinjlbaeigdaaLupJ8
set_option maxRecDepth 20000
set_option linter.unusedSimpArgs false
set_option linter.unusedVariables false
namespace Go.Proofs.Ytlkinjlbaeigdaa.pb
open Go Go.Ev Go.Sy Go.RowKit Go.Proofs.Ytlkinjlbaeigdaa.gl Go.Proofs.Ytlkinjlbaeigdaa.tk Go.Proofs.Ytlkinjlbaeigdaa.hf Go.Proofs.Ytlkinjlbaeigdaa.s3 Go.Proofs.Ytlkinjlbaeigdaa.tb Go.Proofs.Ytlkinjlbaeigdaa.up
open Go.Proofs.Ytlkinjlbaeigdaa.pk (rowL rowU hdL txL blk szs)
abbrev PW := Go.Proofs.Ytlkinjlbaeigdaa.pk.Wr
open Classical in
noncomputable def hR (t : Tb) (f : Fl) (how : Int) : Int := if (fndF t.l f).2 = true ∧ how ≠ 3 then 1 else if how = 1 then 1 else if how = 3 then 3 else 2
noncomputable def blkW : List PW → Tb → List Wr
  | [], _ => []
  | w :: l, t => ⟨w.f, hR t w.f w.h⟩ :: blkW l (rowU t w.f w.h)
def SameT (u t : Tb) : Prop := u.l = t.l ∧ u.most = t.most
theorem rowO_ok (x : Cx) (s : St) (f : Fl) (h : Int) (hl : s.sum + (fbN f : Nat) ≤ x.list) : rowO x s f h = ⟨0, ⟨s.i, s.W ++ [⟨f, h⟩], s.sum + (fbN f : Nat), s.sz, s.t⟩⟩ := by
  unfold rowO roW roS
  rw [if_neg (by omega), if_neg (by omega)]
theorem addT_same {u t : Tb} (h : SameT u t) (f : Fl) : SameT (addT u f) (addT t f) := by
  obtain ⟨h1, h2⟩ := h
  unfold SameT addT
  rw [h1, h2]
  split <;> exact ⟨rfl, rfl⟩
theorem step_back (x : Cx) (s : St) (t : Tb) (pre rest : List UInt8) (f : Fl) (how : Int) (hb : x.b = pre ++ (rowL t f how ++ rest)) (hi : s.i = pre.length) (ht : SameT s.t t) (ho : Ok t) (hn : f.n.length ≤ 60000) (hv : f.v.length ≤ 60000) (hl : s.sum + (fbN f : Nat) ≤ x.list) :
    ∃ u, SameT u (rowU t f how) ∧ Go.Proofs.Ytlkinjlbaeigdaa.up.step x s = ⟨0, ⟨(pre ++ rowL t f how).length, s.W ++ [⟨f, hR t f how⟩], s.sum + (fbN f : Nat), s.sz, u⟩⟩ := by
  obtain ⟨q, q1, q2, q3, q4⟩ := fnd_cases t.l f
  have hlen := ok_len t.l
  obtain ⟨o1, o2, o3⟩ := ho
  have hq : q ≤ 2147483647 := by omega
  obtain ⟨t1, t2⟩ := ht
  unfold rowL at hb ⊢
  unfold rowU hR
  rw [q1] at hb ⊢
  simp only [Int.toNat_natCast] at hb ⊢
  by_cases c : (fndF t.l f).2 = true ∧ how ≠ 3
  · rw [if_pos c] at hb ⊢
    rw [if_pos c, if_pos c]
    obtain ⟨a1, a2, a3⟩ := at_put x.b pre rest 128 7 q (by omega) hb
    have hnu := nu_back x.b pre rest 128 7 q (by omega) (by omega) hq hb
    obtain ⟨g1, g2⟩ := q3 c.1
    have g3 := getF_ok t.l q g1 q2
    have e7 : 2 ^ 7 * ((128 : UInt8).toNat / 2 ^ 7) = 128 := rfl
    rw [e7] at a2
    refine ⟨s.t, ⟨t1, t2⟩, ?_⟩
    unfold Go.Proofs.Ytlkinjlbaeigdaa.up.step
    rw [hi, if_pos a2]
    unfold stIx
    rw [hi, hnu, t1]
    simp only [ne_eq, not_true_eq_false, if_false, g3]
    rw [if_neg (by simp), g2, rowO_ok _ _ _ _ (by exact hl)]
  · rw [if_neg c] at hb ⊢
    rw [if_neg c, if_neg c]
    have hz : ((q : Int) = 0) ↔ q = 0 := by omega
    simp only [hz, List.append_assoc] at hb ⊢
    unfold hdL at hb ⊢
    by_cases h1 : how = 1
    · simp only [h1, if_true] at hb ⊢
      have hb' : x.b = pre ++ ((putB 64 6 q ++ ((if q = 0 then txL f.n else []) ++ txL f.v)) ++ rest) := by rw [hb]; simp
      obtain ⟨a1, a2, a3⟩ := at_put x.b pre _ 64 6 q (by omega) hb
      have e6 : 2 ^ 6 * ((64 : UInt8).toNat / 2 ^ 6) = 64 := rfl
      rw [e6] at a2 a3
      have li := li_back t.l x.b pre rest f 64 6 q (by omega) (by omega) hq hn hv q4 hb'
      refine ⟨addT s.t f, addT_same ⟨t1, t2⟩ f, ?_⟩
      unfold Go.Proofs.Ytlkinjlbaeigdaa.up.step
      rw [hi, if_neg (by omega), if_pos a2]
      unfold stAd
      rw [hi, t1, li]
      simp only [ne_eq, not_true_eq_false, if_false]
      rw [rowO_ok _ _ _ _ (by exact hl)]
    · simp only [h1, if_false] at hb ⊢
      by_cases h3 : how = 3
      · simp only [h3, if_true] at hb ⊢
        have hb' : x.b = pre ++ ((putB 16 4 q ++ ((if q = 0 then txL f.n else []) ++ txL f.v)) ++ rest) := by rw [hb]; simp
        obtain ⟨a1, a2, a3⟩ := at_put x.b pre _ 16 4 q (by omega) hb
        have e6 : 2 ^ 4 * ((16 : UInt8).toNat / 2 ^ 4) = 16 := rfl
        rw [e6] at a2 a3
        have li := li_back t.l x.b pre rest f 16 4 q (by omega) (by omega) hq hn hv q4 hb'
        refine ⟨s.t, ⟨t1, t2⟩, ?_⟩
        unfold Go.Proofs.Ytlkinjlbaeigdaa.up.step
        rw [hi, if_neg (by omega), if_neg (by omega), if_neg (by omega), if_pos a2]
        unfold stLi
        rw [hi, t1, li]
        simp only [ne_eq, not_true_eq_false, if_false]
        rw [rowO_ok _ _ _ _ (by exact hl)]
      · simp only [h3, if_false] at hb ⊢
        have hb' : x.b = pre ++ ((putB 0 4 q ++ ((if q = 0 then txL f.n else []) ++ txL f.v)) ++ rest) := by rw [hb]; simp
        obtain ⟨a1, a2, a3⟩ := at_put x.b pre _ 0 4 q (by omega) hb
        have e6 : 2 ^ 4 * ((0 : UInt8).toNat / 2 ^ 4) + 2 ^ 4 = 16 := rfl
        rw [e6] at a3
        have li := li_back t.l x.b pre rest f 0 4 q (by omega) (by omega) hq hn hv q4 hb'
        refine ⟨s.t, ⟨t1, t2⟩, ?_⟩
        unfold Go.Proofs.Ytlkinjlbaeigdaa.up.step
        rw [hi, if_neg (by omega), if_neg (by omega), if_neg (by omega), if_neg (by omega)]
        unfold stLi
        rw [hi, t1, li]
        simp only [ne_eq, not_true_eq_false, if_false]
        rw [rowO_ok _ _ _ _ (by exact hl)]
theorem run_back (x : Cx) : ∀ (wl : List PW) (pre : List UInt8) (s : St) (t : Tb) (k : Nat), wl.length ≤ k → (∀ w ∈ wl, w.f.n.length ≤ 60000 ∧ w.f.v.length ≤ 60000) → x.b = pre ++ (blk wl t).1 → s.i = pre.length → SameT s.t t → Ok t → s.sum + (Go.Proofs.Ytlkinjlbaeigdaa.pk.wSum wl : Nat) ≤ x.list →
    ∃ u, SameT u (blk wl t).2 ∧ Go.Proofs.Ytlkinjlbaeigdaa.up.runO x k s = ⟨0, ⟨x.b.length, s.W ++ blkW wl t, s.sum + (Go.Proofs.Ytlkinjlbaeigdaa.pk.wSum wl : Nat), s.sz, u⟩⟩
  | [], pre, s, t, k, _, _, hb, hi, ht, _, _ => by
    have hl : x.b.length = s.i := by rw [hb, hi]; simp [blk]
    have e : Go.Proofs.Ytlkinjlbaeigdaa.up.runO x k s = ⟨0, s⟩ := by
      cases k with
      | zero => rfl
      | succ q => unfold Go.Proofs.Ytlkinjlbaeigdaa.up.runO; rw [if_pos (by omega)]
    have : Go.Proofs.Ytlkinjlbaeigdaa.pk.wSum [] = 0 := rfl
    exact ⟨s.t, ht, by rw [e, hl, this]; simp [blkW]⟩
  | w :: wl, pre, s, t, k, hk, hf, hb, hi, ht, ho, hs => by
    obtain ⟨q, rfl⟩ : ∃ q, k = q + 1 := ⟨k - 1, by simp at hk; omega⟩
    have es : Go.Proofs.Ytlkinjlbaeigdaa.pk.wSum (w :: wl) = fbN w.f + Go.Proofs.Ytlkinjlbaeigdaa.pk.wSum wl := by unfold Go.Proofs.Ytlkinjlbaeigdaa.pk.wSum; rw [List.map_cons, List.sum_cons]
    have hb' : x.b = pre ++ (rowL t w.f w.h ++ (blk wl (rowU t w.f w.h)).1) := by rw [hb]; rfl
    have hw := hf w (List.mem_cons_self ..)
    obtain ⟨u1, v1, st⟩ := step_back x s t pre _ w.f w.h hb' hi ht ho hw.1 hw.2 (by omega)
    have hp := Go.Proofs.Ytlkinjlbaeigdaa.pk.rowL_pos t w.f w.h
    have hl : s.i < x.b.length := by rw [hb', hi, List.length_append, List.length_append]; omega
    obtain ⟨u2, v2, ih⟩ := run_back x wl (pre ++ rowL t w.f w.h) ⟨(pre ++ rowL t w.f w.h).length, s.W ++ [⟨w.f, hR t w.f w.h⟩], s.sum + (fbN w.f : Nat), s.sz, u1⟩ (rowU t w.f w.h) q (by simp at hk; omega) (fun g hg => hf g (List.mem_cons_of_mem _ hg)) (by rw [hb']; simp) rfl v1 (Go.Proofs.Ytlkinjlbaeigdaa.pk.ok_row t w.f w.h ho) (by simp only; omega)
    refine ⟨u2, v2, ?_⟩
    unfold Go.Proofs.Ytlkinjlbaeigdaa.up.runO
    rw [if_neg (by omega), st]
    simp only [ne_eq, not_true_eq_false, if_false]
    rw [ih, es]
    have e2 : s.sum + (fbN w.f : Nat) + (Go.Proofs.Ytlkinjlbaeigdaa.pk.wSum wl : Nat) = s.sum + ((fbN w.f + Go.Proofs.Ytlkinjlbaeigdaa.pk.wSum wl : Nat) : Int) := by omega
    simp only [e2, List.append_assoc, List.singleton_append]
    rfl
theorem step_size (x : Cx) (s : St) (pre rest : List UInt8) (v : Nat) (hb : x.b = pre ++ (putB 32 5 v ++ rest)) (hi : s.i = pre.length) (hW : s.W = []) (hz : s.sz < 2) (hv : (v : Int) ≤ x.top) (ht : x.top ≤ 65536) :
    Go.Proofs.Ytlkinjlbaeigdaa.up.step x s = ⟨0, ⟨(pre ++ putB 32 5 v).length, [], s.sum, s.sz + 1, rsT s.t v⟩⟩ := by
  obtain ⟨a1, a2, a3⟩ := at_put x.b pre rest 32 5 v (by omega) hb
  have hnu := nu_back x.b pre rest 32 5 v (by omega) (by omega) (by omega) hb
  have e6 : 2 ^ 5 * ((32 : UInt8).toNat / 2 ^ 5) = 32 := rfl
  rw [e6] at a2 a3
  have hsi : siR x.b s.i s.W.length s.sz x.top = ⟨0, (pre ++ putB 32 5 v).length, ()⟩ := by
    unfold siR
    rw [hi, hnu, hW]
    simp only [ne_eq, not_true_eq_false, if_false]
    rw [if_pos ⟨rfl, hz, hv⟩]
  unfold Go.Proofs.Ytlkinjlbaeigdaa.up.step
  rw [hi, if_neg (by omega), if_neg (by omega), if_pos a2]
  unfold stSi siT siZ
  rw [hsi, hi, hnu, hW]
  rfl
end Go.Proofs.Ytlkinjlbaeigdaa.pb
