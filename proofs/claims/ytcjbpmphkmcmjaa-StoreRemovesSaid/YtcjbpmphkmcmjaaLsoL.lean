/- The store: Put. -/
import Derived.Test.YtcjbpmphkmcmjaaSz9
import Derived.Test.YtcjbpmphkmcmjaaRows
import Derived.Test.YtcjbpmphkmcmjaaLsoK
set_option maxRecDepth 20000
set_option linter.unusedSimpArgs false
set_option linter.unusedVariables false
namespace Go.Proofs.Ytcjbpmphkmcmjaa.so
open Go Go.Ev Go.Sy Go.RowKit Go.Proofs.Ytcjbpmphkmcmjaa.gl Go.Proofs.Ytcjbpmphkmcmjaa.tk Go.Proofs.Ytcjbpmphkmcmjaa.cp Go.Proofs.Ytcjbpmphkmcmjaa.ic
structure EOk (a : En) : Prop where
  hs : TOk a.x.s
  ha : TOk a.x.a
  hp : TOk a.x.p
  hb : TOk a.x.body
  he : FV a.e
  hr : FV a.r
theorem cos_bd {a : En} (h : EOk a) : 0 ≤ cosE a ∧ cosE a ≤ 1099511627776 := by
  obtain ⟨h1, h2, h3, h4, ⟨⟨_, h5⟩, _⟩, ⟨⟨_, h6⟩, _⟩⟩ := h
  unfold TOk at h1 h2 h3 h4
  unfold cosE cosL
  omega
theorem preAd_of {s : SS} {ord : List Nat} (h : SInv s ord) (hz : Sz s ord) {key : ByteArray} {cost : Int} (hc : 0 ≤ cost ∧ cost ≤ 1099511627776) (x : EnX) (e r : List Fl) (w o : Int) : PreAd s ⟨x, e, r, key, cost, w, o⟩ := by
  have hl := hz.len
  have hcn := h.cnt
  refine ⟨⟨rfl, by simp only; omega, h.fle, by simp only; omega, fun h0 => ?_⟩, ?_, ?_, ?_⟩
  · simp only at h0 ⊢
    have hlt : s.fn - 1 < s.fr.length := by have := h.fle; omega
    have hx : s.fr.getD (s.fn - 1) 0 = s.fr[s.fn - 1] := by rw [List.getD_eq_getElem?_getD, List.getElem?_eq_getElem hlt]; rfl
    obtain ⟨j, e1, e2, e3⟩ := h.fro (s.fr[s.fn - 1]) (List.mem_take_iff_getElem.2 ⟨s.fn - 1, by omega, rfl⟩)
    rw [hx, e1]; omega
  · unfold ndLk
    rw [h.nw]
    rcases hdQ_in ord with ⟨q, _⟩ | ⟨a, ha, q⟩
    · exact .inl q
    · have := h.lt a ha; rw [q]; exact .inr ⟨by omega, by omega⟩
  · rw [h.mp, List.length_map]
    exact Nat.le_trans (List.length_filter_le _ _) (by omega)
  · have h1 := sum_le (fun i => (gN s.nd i).cost) ord hz.cst
    simp only
    rw [h.siz]; unfold I64; omega
theorem tr_inv : ∀ (k : Nat) (s : SS) (ord : List Nat) (c : Int), SInv s ord → Sz s ord → ord.length ≤ k → 0 ≤ c → c ≤ s.bud → ∃ l, l <+: ord ∧ SInv (trS k s c) l ∧ Sz (trS k s c) l ∧ (trS k s c).siz + c ≤ s.bud ∧ ∀ j ∈ l, same (gN (trS k s c).nd j) (gN s.nd j)
  | 0, s, ord, c, h1, h2, h3, h4, h5 => by
    have e : ord = [] := List.eq_nil_of_length_eq_zero (by omega)
    subst e
    have := h1.siz
    simp at this
    exact ⟨[], List.prefix_refl _, h1, h2, by show s.siz + c ≤ s.bud; omega, fun j hj => by simp at hj⟩
  | k + 1, s, ord, c, h1, h2, h3, h4, h5 => by
    by_cases hq : s.siz + c > s.bud
    · have hne : ord ≠ [] := by
        intro e; subst e
        have := h1.siz
        simp at this; omega
      obtain ⟨l, i, e1, e2, e3, e4, _, e6⟩ := last_rm h1 h2 hne
      have hl : ord.length = l.length + 1 := by rw [e1, List.length_append]; rfl
      obtain ⟨m, g1, g2, g3, g4, g5⟩ := tr_inv k (rmS s i) l c e3 e4 (by omega) h4 h5
      have et : trS (k + 1) s c = trS k (rmS s i) c := by rw [trS, if_pos hq, e2, Int.toNat_natCast]
      rw [et]
      refine ⟨m, g1.trans ⟨[i], e1.symm⟩, g2, g3, g4, fun j hj => ?_⟩
      have a1 := g5 j hj
      have a2 := e6 j (g1.subset hj)
      exact ⟨a1.1.trans a2.1, a1.2.1.trans a2.2.1, a1.2.2.1.trans a2.2.2.1, a1.2.2.2.1.trans a2.2.2.2.1, a1.2.2.2.2.trans a2.2.2.2.2⟩
    · have et : trS (k + 1) s c = s := by rw [trS, if_neg hq]
      rw [et]
      exact ⟨ord, List.prefix_refl _, h1, h2, by omega, fun j _ => same_refl _⟩
theorem prM_same (q : List Fl) (a b : Nd) (h : same a b) : prM q a = prM q b := by unfold prM; rw [h.2.1, h.2.2.1]
theorem mget_in {s : SS} {ord : List Nat} (h : SInv s ord) (K : ByteArray) : (mget s.m K).Nodup ∧ ∀ x ∈ mget s.m K, ∃ i ∈ ord, x = ((i : Nat) : Int) := by
  rw [h.mp]
  refine ⟨?_, fun x hx => ?_⟩
  · refine List.Pairwise.map _ (fun a b hab e => hab ?_) (h.nod.filter _)
    have e : (a : Int) = (b : Int) := e
    omega
  · obtain ⟨i, hi, rfl⟩ := List.mem_map.1 hx
    exact ⟨i, (List.mem_filter.1 hi).1, rfl⟩
theorem Pu_con (s : SS) (ord : List Nat) (h : SInv s ord) (hz : Sz s ord) (a : En) (ha : EOk a) (hb : s.bud ≤ 1099511627776) : ConM Try.prog 10 [.pointer (some ⟨0, 0, none⟩), .agg ⟨enCells a.x 1 a.e.length 2 a.r.length⟩] [ssR s 3 4 5, gRo enF a.e, gRo enF a.r, gOwn ndC s.nd, iOwn .i64 s.fr, mpR s.m] (.bool (puB s a)) 8 (rwPu (puS s a)) := by
  refine conM_vc (E := EPu) mixed (calls_envTd tPu_ok) (lok_envTd _ _ _) (M := mPu) (lm_one Tr_piece) (Pu_vc s _ a _) ?_
  have i1 : ∀ l : List Fl, IsF ⟨gC enF l, true, .cells true⟩ l.length := fun l => isF_mk _ _ rfl
  obtain ⟨p3, p4⟩ := mget_in h (keyE a)
  obtain ⟨g1, g2, g3⟩ := dr_inv (prM_same a.e) (mget s.m (keyE a)) s ord h hz p3 p4
  obtain ⟨hl1, hl2⟩ := drS_len (prM a.e) (mget s.m (keyE a)) s
  obtain ⟨c1, c2⟩ := cos_bd ha
  obtain ⟨m1, m2, m3, m4, m5, m6, m7⟩ := ds_mk s (keyE a) a.e true (.cells true)
  have hpd := pDr_mk s ord h hz
  have hk : keyV a.x.s a.x.a a.x.p = keyE a := rfl
  have hc : cosL a.x.s a.x.a a.x.p a.x.body a.e a.r = cosE a := rfl
  simp only [ofNat_eq, toNat_cast, Nat.zero_add, Nat.add_zero, Nat.mul_one, List.drop_zero, bCells_len, bCells_drop, bCells_take, bCells_app, bCells_one, bCells_plain, List.length_replicate, List.length_append, List.length_take, List.length_drop, List.take_length, and_true, true_and, and_self, decide_true, List.length_nil, List.length_cons, Nat.sub_zero, dB_mk, dB_ro, List.take_zero, fPl, fLen, fTake, nPl, mC_plain, iCells_plain, fvR, fokR, z_cos, hk, hc, i1, ha.hs, ha.ha, ha.hp, ha.hb, ha.he, ha.hr, ha.he.1, ha.hr.1, m1, m2, m3, m4, m5, m6, m7, hpd, Nat.le_refl, true_and, and_true]
  refine br_if (fun q => ?_) (fun q => ?_)
  · have e1 : puB s a = false := decide_eq_false (by omega)
    have e2 : puS s a = drS (prM a.e) s (mget s.m (keyE a)) := by unfold puS; rw [if_pos q]
    rw [e1, e2]
    exact ⟨rfl, hl2, rfl, hl1, rfl, rfl, rfl, rfl, rfl, rfl⟩
  · have e1 : puB s a = true := decide_eq_true (by omega)
    have hle : (List.filter (fun i => !(decide (((i : Nat) : Int) ∈ mget s.m (keyE a)) && prM a.e (gN s.nd i))) ord).length ≤ s.nd.length := by
      have := h.cnt
      exact Nat.le_trans (List.length_filter_le _ _) (by omega)
    have e2 : puS s a = adS (trS s.nd.length (drS (prM a.e) s (mget s.m (keyE a))) (cosE a)) (ndE a) := by unfold puS; rw [if_neg q, hl1]
    obtain ⟨l, _, t1, t2, _, _⟩ := tr_inv s.nd.length _ _ (cosE a) g1 g2 hle c1 (by rw [hl2]; omega)
    rw [e1, e2]
    refine ⟨⟨drS (prM a.e) s (mget s.m (keyE a)), s.nd.length, a, keyE a, cosE a⟩, ⟨_, g1, g2, hle, c1, by simp only; rw [hl2]; omega, by simp only; rw [hl2]; exact hb⟩, ?_⟩
    refine ⟨rfl, rfl, hl2, rfl, hl1, ?_⟩
    repeat (refine ⟨rfl, ?_⟩)
    intro _ _
    simp only
    have hpa := pAd_mk _ (keyE a) (cosE a) fun x e r w o => preAd_of t1 t2 (key := keyE a) ⟨c1, c2⟩ x e r w o
    obtain ⟨k1, k2, k3, k4, k5, k6⟩ := ad_mk (trS s.nd.length (drS (prM a.e) s (mget s.m (keyE a))) (cosE a)) a.x a.e a.r (keyE a) (cosE a)
    have hdf : ∀ l : List Fl, decF (gC enF l) = l := fun l => decF_gC l
    have hfo : ∀ l : List Fl, IsFo ⟨gC enF l, false, .cells true⟩ l.length := isFo_mk
    simp only [hdf, k1, k2, k3, k4, k5, k6, hpa, hfo, ha.he.1, ha.hr.1, nPl, mC_plain, true_and, and_true]
    exact ⟨rfl, rfl, rfl, rfl, rfl, rfl, rfl, rfl, rfl⟩
end Go.Proofs.Ytcjbpmphkmcmjaa.so
