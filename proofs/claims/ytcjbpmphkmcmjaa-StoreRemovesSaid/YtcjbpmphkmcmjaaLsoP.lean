/- The store: what it shows, the newest first. -/
import Derived.Test.YtcjbpmphkmcmjaaSz9
import Derived.Test.YtcjbpmphkmcmjaaRows
import Derived.Test.YtcjbpmphkmcmjaaLsoO
set_option maxRecDepth 20000
set_option linter.unusedSimpArgs false
set_option linter.unusedVariables false
namespace Go.Proofs.Ytcjbpmphkmcmjaa.so
open Go Go.Ev Go.Sy Go.RowKit Go.Proofs.Ytcjbpmphkmcmjaa.gl Go.Proofs.Ytcjbpmphkmcmjaa.tk Go.Proofs.Ytcjbpmphkmcmjaa.cp Go.Proofs.Ytcjbpmphkmcmjaa.ic
def enN (n : Nd) : En := ⟨n.x, n.e, n.r⟩
structure VwO (s : SS) (ord : List Nat) : Prop where
  inv : SInv s ord
  sz : Sz s ord
  ok : ∀ i ∈ ord, (gN s.nd i).key = keyE (enN (gN s.nd i)) ∧ (gN s.nd i).cost = cosE (enN (gN s.nd i))
def vwL (s : SS) (ord : List Nat) : List En := ord.map fun i => enN (gN s.nd i)
def Vw (s : SS) (V : List En) : Prop := ∃ ord, VwO s ord ∧ vwL s ord = V
noncomputable def mtV (K : ByteArray) (q : List Fl) (b : En) : Bool := decide (keyE b = K) && matL b.e b.r q
def pfx : Int → List En → List En
  | _, [] => []
  | b, a :: V => if cosE a ≤ b then a :: pfx (b - cosE a) V else []
def suV (V : List En) : Int := (V.map cosE).sum
noncomputable def puV (bud : Int) (V : List En) (a : En) : List En := if cosE a > bud then V.filter (fun b => !mtV (keyE a) a.e b) else a :: pfx (bud - cosE a) (V.filter (fun b => !mtV (keyE a) a.e b))
theorem enN_same {a b : Nd} (h : same a b) : enN a = enN b := by
  unfold enN; rw [h.1, h.2.1, h.2.2.1]
theorem vw_sub {s s' : SS} {ord ord' : List Nat} (h : VwO s ord) (hi : SInv s' ord') (hz : Sz s' ord') (hs : ∀ j ∈ ord', j ∈ ord) (hm : ∀ j ∈ ord', same (gN s'.nd j) (gN s.nd j)) : VwO s' ord' ∧ vwL s' ord' = ord'.map (fun i => enN (gN s.nd i)) := by
  refine ⟨⟨hi, hz, fun j hj => ?_⟩, List.map_congr_left fun j hj => enN_same (hm j hj)⟩
  rw [enN_same (hm j hj), (hm j hj).2.2.2.1, (hm j hj).2.2.2.2]
  exact h.ok j (hs j hj)
theorem cos_nn (a : En) : 0 ≤ cosE a := by unfold cosE cosL; omega
theorem suV_nn : ∀ V : List En, 0 ≤ suV V
  | [] => Int.le_refl _
  | a :: V => by
    have := suV_nn V; have := cos_nn a
    unfold suV at *; rw [List.map_cons, List.sum_cons]; omega
theorem suV_cons (a : En) (V : List En) : suV (a :: V) = cosE a + suV V := by unfold suV; rw [List.map_cons, List.sum_cons]
theorem pfx_all : ∀ (V : List En) (b : Int), suV V ≤ b → pfx b V = V
  | [], _, _ => rfl
  | a :: V, b, h => by
    rw [suV_cons] at h
    have := suV_nn V
    rw [pfx, if_pos (by omega), pfx_all V _ (by omega)]
theorem pfx_snoc : ∀ (V : List En) (a : En) (b : Int), suV (V ++ [a]) > b → pfx b (V ++ [a]) = pfx b V
  | [], a, b, h => by
    have e : suV ([] ++ [a]) = cosE a := by simp [suV]
    rw [e] at h
    show (if cosE a ≤ b then _ else _) = _
    rw [if_neg (by omega)]; rfl
  | c :: V, a, b, h => by
    rw [List.cons_append, suV_cons] at h
    rw [List.cons_append, pfx, pfx]
    split
    · rw [pfx_snoc V a _ (by omega)]
    · rfl
theorem vw_siz {s : SS} {ord : List Nat} (h : VwO s ord) : s.siz = suV (vwL s ord) := by
  rw [h.inv.siz]; unfold suV vwL
  rw [List.map_map]
  exact congrArg List.sum (List.map_congr_left fun i hi => (h.ok i hi).2)
theorem vw_tr : ∀ (k : Nat) (s : SS) (ord : List Nat) (c : Int), VwO s ord → ord.length ≤ k → 0 ≤ c → c ≤ s.bud → ∃ l, VwO (trS k s c) l ∧ vwL (trS k s c) l = pfx (s.bud - c) (vwL s ord)
  | 0, s, ord, c, h1, h3, h4, h5 => by
    have e : ord = [] := List.eq_nil_of_length_eq_zero (by omega)
    subst e
    exact ⟨[], h1, rfl⟩
  | k + 1, s, ord, c, h1, h3, h4, h5 => by
    have hz := vw_siz h1
    by_cases hq : s.siz + c > s.bud
    · have hne : ord ≠ [] := by
        intro e; subst e
        have := h1.inv.siz
        simp at this; omega
      obtain ⟨l, i, e1, e2, e3, e4, _, e6⟩ := last_rm h1.inv h1.sz hne
      have hl : ord.length = l.length + 1 := by rw [e1, List.length_append]; rfl
      obtain ⟨v1, v2⟩ := vw_sub h1 e3 e4 (fun j hj => by rw [e1]; simp [hj]) e6
      obtain ⟨m, g1, g2⟩ := vw_tr k (rmS s i) l c v1 (by omega) h4 h5
      have et : trS (k + 1) s c = trS k (rmS s i) c := by rw [trS, if_pos hq, e2, Int.toNat_natCast]
      rw [et]
      refine ⟨m, g1, ?_⟩
      have ev : vwL s ord = vwL (rmS s i) l ++ [enN (gN s.nd i)] := by rw [v2, e1]; unfold vwL; rw [List.map_append]; rfl
      rw [g2, ev, pfx_snoc _ _ _ (by rw [← ev]; omega)]
      rfl
    · have et : trS (k + 1) s c = s := by rw [trS, if_neg hq]
      rw [et]
      exact ⟨ord, h1, (pfx_all _ _ (by omega)).symm⟩
theorem fv_z : FV ndZ.e ∧ FV ndZ.r := ⟨⟨⟨Nat.zero_le _, Nat.zero_le _⟩, fun x => Nat.zero_le _⟩, ⟨⟨Nat.zero_le _, Nat.zero_le _⟩, fun x => Nat.zero_le _⟩⟩
theorem ad_er1 (A : List Nd) (k j : Int) (P : List Fl → List Fl → Prop) (h : ∀ i, P (gN A i).e (gN A i).r) (i : Nat) : P (gN (if k = -1 then A else A.modify k.toNat (fun y => { y with nw := j })) i).e (gN (if k = -1 then A else A.modify k.toNat (fun y => { y with nw := j })) i).r := by
  by_cases hk : k = -1
  · rw [if_pos hk]; exact h i
  · rw [if_neg hk, gN_modify]
    by_cases hq : i = k.toNat ∧ k.toNat < A.length
    · rw [if_pos hq]; exact h i
    · rw [if_neg hq]; exact h i
theorem ad_er (s : SS) (n : Nd) (P : List Fl → List Fl → Prop) (hn : P n.e n.r) (h : ∀ i, P (gN s.nd i).e (gN s.nd i).r) (i : Nat) : P (gN (adN s n) i).e (gN (adN s n) i).r := by
  have h1 : ∀ i, P (gN (if s.fn = 0 then s.nd ++ [{ n with nw := -1, ol := s.nw }] else s.nd.modify (adI s) (fun _ => { n with nw := -1, ol := s.nw })) i).e (gN (if s.fn = 0 then s.nd ++ [{ n with nw := -1, ol := s.nw }] else s.nd.modify (adI s) (fun _ => { n with nw := -1, ol := s.nw })) i).r := fun i => by
    split
    · rw [gN_app]; split
      · exact hn
      · exact h i
    · rw [gN_modify]; split
      · exact hn
      · exact h i
  exact ad_er1 _ s.nw (adI s : Int) P h1 i
theorem vw_ad {s : SS} {ord : List Nat} (h : VwO s ord) (n : Nd) (hk : n.key = keyE (enN n)) (hc : n.cost = cosE (enN n)) (hf : FV n.e ∧ FV n.r) (hb : n.cost ≤ 1099511627776) (hl : s.nd.length < 1000) : VwO (adS s n) (adI s :: ord) ∧ vwL (adS s n) (adI s :: ord) = enN n :: vwL s ord := by
  obtain ⟨a1, a2, a3⟩ := SInv_ad h.inv n
  refine ⟨⟨a1, ⟨?_, ?_, ?_⟩, ?_⟩, ?_⟩
  · show (adN s n).length ≤ 1000
    rw [adN_len]; split <;> omega
  · exact ad_er s n (fun e r => FV e ∧ FV r) hf h.sz.fv
  · intro i hi
    rcases List.mem_cons.1 hi with rfl | hi
    · rw [a3.2.2.2.2]; have := cos_nn (enN n); omega
    · rw [(a2 i hi).2.2.2.2]; exact h.sz.cst i hi
  · intro i hi
    rcases List.mem_cons.1 hi with rfl | hi
    · rw [enN_same a3, a3.2.2.2.1, a3.2.2.2.2]; exact ⟨hk, hc⟩
    · rw [enN_same (a2 i hi), (a2 i hi).2.2.2.1, (a2 i hi).2.2.2.2]; exact h.ok i hi
  · unfold vwL; rw [List.map_cons, enN_same a3]
    exact congrArg _ (List.map_congr_left fun j hj => enN_same (a2 j hj))
theorem ad_len (s : SS) (n : Nd) : (adS s n).nd.length ≤ s.nd.length + 1 := by
  show (adN s n).length ≤ _
  rw [adN_len]; split <;> omega
theorem mg_mem {s : SS} {ord : List Nat} (h : SInv s ord) (K : ByteArray) (i : Nat) (hi : i ∈ ord) : decide (((i : Nat) : Int) ∈ mget s.m K) = decide ((gN s.nd i).key = K) := by
  rw [h.mp]
  refine decide_eq_decide.2 ⟨fun hm => ?_, fun hk => ?_⟩
  · obtain ⟨j, hj, e⟩ := List.mem_map.1 hm
    have : j = i := by have : (j : Int) = (i : Int) := e; omega
    subst this
    simpa using (List.mem_filter.1 hj).2
  · exact List.mem_map.2 ⟨i, List.mem_filter.2 ⟨hi, by simpa using hk⟩, rfl⟩
theorem vw_dr {s : SS} {ord : List Nat} (h : VwO s ord) (K : ByteArray) (pr : Nd → Bool) (hpr : ∀ a b, same a b → pr a = pr b) (p : En → Bool) (hp : ∀ i ∈ ord, p (enN (gN s.nd i)) = pr (gN s.nd i)) : ∃ l, VwO (drS pr s (mget s.m K)) l ∧ vwL (drS pr s (mget s.m K)) l = (vwL s ord).filter (fun b => !(decide (keyE b = K) && p b)) ∧ l.length ≤ ord.length := by
  obtain ⟨p3, p4⟩ := mget_in h.inv K
  obtain ⟨g1, g2, g3⟩ := dr_inv hpr (mget s.m K) s ord h.inv h.sz p3 p4
  obtain ⟨v1, v2⟩ := vw_sub h g1 g2 (fun j hj => (List.mem_filter.1 hj).1) g3
  refine ⟨_, v1, ?_, List.length_filter_le _ _⟩
  rw [v2]; unfold vwL
  rw [List.filter_map]
  refine congrArg _ (List.filter_congr fun i hi => ?_)
  simp only [Function.comp]
  rw [mg_mem h.inv K i hi, hp i hi, (h.ok i hi).1]
theorem vw_put {s : SS} {V : List En} (h : Vw s V) (a : En) (ha : EOk a) (hl : s.nd.length < 1000) : Vw (puS s a) (puV s.bud V a) ∧ (puS s a).nd.length ≤ s.nd.length + 1 ∧ (puS s a).bud = s.bud := by
  obtain ⟨ord, h, rfl⟩ := h
  obtain ⟨l, d1, d2, d3⟩ := vw_dr h (keyE a) (prM a.e) (prM_same a.e) (fun b => matL b.e b.r a.e) (fun i _ => rfl)
  obtain ⟨hl1, hl2⟩ := drS_len (prM a.e) (mget s.m (keyE a)) s
  obtain ⟨c1, c2⟩ := cos_bd ha
  unfold puS puV
  split
  · exact ⟨⟨l, d1, d2⟩, by omega, hl2⟩
  · have hlen : l.length ≤ (drS (prM a.e) s (mget s.m (keyE a))).nd.length := by
      have := d1.inv.cnt; omega
    obtain ⟨m, t1, t2⟩ := vw_tr _ _ l (cosE a) d1 hlen c1 (by omega)
    obtain ⟨b1, b2⟩ := trS_bud (drS (prM a.e) s (mget s.m (keyE a))).nd.length (drS (prM a.e) s (mget s.m (keyE a))) (cosE a)
    obtain ⟨u1, u2⟩ := vw_ad t1 (ndE a) rfl rfl ⟨ha.he, ha.hr⟩ c2 (by omega)
    refine ⟨⟨_, u1, ?_⟩, ?_, ?_⟩
    · rw [u2, t2, d2, hl2]; rfl
    · have := ad_len (trS (drS (prM a.e) s (mget s.m (keyE a))).nd.length (drS (prM a.e) s (mget s.m (keyE a))) (cosE a)) (ndE a); omega
    · show (trS _ _ _).bud = _
      rw [b1, hl2]
theorem vw_keys {s : SS} {ord : List Nat} (h : VwO s ord) : kyL s ord = (vwL s ord).map (fun a => L (keyE a)) := by
  unfold kyL vwL
  rw [List.map_map]
  exact List.map_congr_left fun i hi => by rw [(h.ok i hi).1]; rfl
theorem vw_len {s : SS} {ord : List Nat} (h : VwO s ord) : (vwL s ord).length + s.fn = s.nd.length := by
  unfold vwL; rw [List.length_map, h.inv.cnt]
end Go.Proofs.Ytcjbpmphkmcmjaa.so
