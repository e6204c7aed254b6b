/- The store: what holds of it, kept by taking out and by putting in. -/
import Derived.Test.YtcjbpmphkmcmjaaSz9
import Derived.Test.YtcjbpmphkmcmjaaRows
import Derived.Test.YtcjbpmphkmcmjaaLsoM
set_option maxRecDepth 20000
set_option linter.unusedSimpArgs false
set_option linter.unusedVariables false
namespace Go.Proofs.Ytcjbpmphkmcmjaa.so
open Go Go.Ev Go.Sy Go.RowKit Go.Proofs.Ytcjbpmphkmcmjaa.gl Go.Proofs.Ytcjbpmphkmcmjaa.tk
theorem lsQ_app : ∀ (a b : List Nat) (p : Int), lsQ (a ++ b) p = lsQ b (lsQ a p)
  | [], b, p => rfl
  | x :: a, b, p => lsQ_app a b (x : Int)
theorem lsQ_in (l : List Nat) : lsQ l (-1) = -1 ∧ l = [] ∨ ∃ a ∈ l, lsQ l (-1) = (a : Int) := by
  by_cases h : l = []
  · subst h; exact .inl ⟨rfl, rfl⟩
  · exact .inr (lsQ_mem l (-1) h)
theorem hdQ_in (l : List Nat) : hdQ l (-1) = -1 ∧ l = [] ∨ ∃ a ∈ l, hdQ l (-1) = (a : Int) := by
  cases l with
  | nil => exact .inl ⟨rfl, rfl⟩
  | cons a l => exact .inr ⟨a, by simp, rfl⟩
theorem same_refl (a : Nd) : same a a := ⟨rfl, rfl, rfl, rfl, rfl⟩
theorem rmN_get (s : SS) (i j : Nat) (hj : j < s.nd.length) (hij : j ≠ i) (h1 : (gN s.nd i).nw = -1 ∨ 0 ≤ (gN s.nd i).nw) (h2 : (gN s.nd i).ol = -1 ∨ 0 ≤ (gN s.nd i).ol) :
    (gN (rmN s i) j).nw = (if (j : Int) = (gN s.nd i).ol then (gN s.nd i).nw else (gN s.nd j).nw) ∧ (gN (rmN s i) j).ol = (if (j : Int) = (gN s.nd i).nw then (gN s.nd i).ol else (gN s.nd j).ol) ∧ same (gN (rmN s i) j) (gN s.nd j) := by
  unfold rmN
  simp only
  rw [gN_modify, if_neg (fun h => hij h.1)]
  generalize gN s.nd i = n at *
  have e1 : ∀ (l : List Nd), l.length = s.nd.length → gN (if n.nw = -1 then l else l.modify n.nw.toNat fun y => { y with ol := n.ol }) j = (if (j : Int) = n.nw then { gN l j with ol := n.ol } else gN l j) := by
    intro l hl
    by_cases hq : n.nw = -1
    · rw [if_pos hq, if_neg (by omega)]
    · rw [if_neg hq, gN_modify]
      by_cases hc : (j : Int) = n.nw
      · rw [if_pos ⟨by omega, by omega⟩, if_pos hc]
      · rw [if_neg (fun h => hc (by omega)), if_neg hc]
  have e2 : ∀ (l : List Nd), l.length = s.nd.length → gN (if n.ol = -1 then l else l.modify n.ol.toNat fun y => { y with nw := n.nw }) j = (if (j : Int) = n.ol then { gN l j with nw := n.nw } else gN l j) := by
    intro l hl
    by_cases hq : n.ol = -1
    · rw [if_pos hq, if_neg (by omega)]
    · rw [if_neg hq, gN_modify]
      by_cases hc : (j : Int) = n.ol
      · rw [if_pos ⟨by omega, by omega⟩, if_pos hc]
      · rw [if_neg (fun h => hc (by omega)), if_neg hc]
  rw [e2 _ (by split <;> simp), e1 _ rfl]
  by_cases c1 : (j : Int) = n.ol <;> by_cases c2 : (j : Int) = n.nw <;> simp [c1, c2, same]
  all_goals (try (rw [← c1] at c2)) <;> simp_all
theorem SInv_rm {s : SS} {ord : List Nat} (h : SInv s ord) {i : Nat} (hi : i ∈ ord) : SInv (rmS s i) (ord.filter (fun j => decide (j ≠ i))) ∧ ∀ j ∈ ord, j ≠ i → same (gN (rmS s i).nd j) (gN s.nd j) := by
  obtain ⟨l1, l2, rfl⟩ := List.append_of_mem hi
  have hnd := h.nod
  have hfo := filter_out hnd
  have hdl := (DL_app _ _ _ _ _).1 h.dl
  obtain ⟨d1, d2, d3, d4⟩ := hdl
  have hil := h.lt i hi
  have n1 : l1.Nodup := (List.nodup_append.1 hnd).1
  have n2 := List.nodup_cons.1 (List.nodup_append.1 hnd).2.1
  have nx : ∀ a ∈ l1, ∀ b ∈ i :: l2, a ≠ b := fun a ha b hb => (List.nodup_append.1 hnd).2.2 a ha b hb
  have k1 : (gN s.nd i).nw = -1 ∨ 0 ≤ (gN s.nd i).nw := by
    rw [d2]; rcases lsQ_in l1 with ⟨e, _⟩ | ⟨a, _, e⟩ <;> rw [e] <;> omega
  have k2 : (gN s.nd i).ol = -1 ∨ 0 ≤ (gN s.nd i).ol := by
    rw [d3]; rcases hdQ_in l2 with ⟨e, _⟩ | ⟨a, _, e⟩ <;> rw [e] <;> omega
  have get : ∀ j, j ∈ l1 ++ i :: l2 → j ≠ i → _ := fun j hj hji => rmN_get s i j (h.lt j hj) hji k1 k2
  have in1 : ∀ j ∈ l1, j ∈ l1 ++ i :: l2 := fun j hj => by simp [hj]
  have in2 : ∀ j ∈ l2, j ∈ l1 ++ i :: l2 := fun j hj => by simp [hj]
  have ne1 : ∀ j ∈ l1, j ≠ i := fun j hj => nx j hj i (by simp)
  have ne2 : ∀ j ∈ l2, j ≠ i := fun j hj e => n2.1 (e ▸ hj)
  have hsame : ∀ j ∈ l1 ++ i :: l2, j ≠ i → same (gN (rmS s i).nd j) (gN s.nd j) := fun j hj hji => (get j hj hji).2.2
  have hso : ∀ j ∈ (l1 ++ i :: l2).filter (fun j => decide (j ≠ i)), same (gN (rmS s i).nd j) (gN s.nd j) := fun j hj => hsame j (List.mem_filter.1 hj).1 (by simpa using (List.mem_filter.1 hj).2)
  refine ⟨⟨hnd.filter _, ?_, ?_, ?_, ?_, ?_, ?_, ?_, ?_, ?_, ?_, ?_⟩, hsame⟩
  · intro j hj
    show j < (rmN s i).length
    rw [rmN_len]; exact h.lt j (List.mem_filter.1 hj).1
  · show s.fn + 1 ≤ (s.fr.take s.fn ++ [(i : Int)]).length
    rw [List.length_append, List.length_take, Nat.min_eq_left h.fle]; exact Nat.le_refl _
  · show ((s.fr.take s.fn ++ [(i : Int)]).take (s.fn + 1)).Nodup
    rw [List.take_of_length_le (by rw [List.length_append, List.length_take, Nat.min_eq_left h.fle]; exact Nat.le_refl _)]
    refine List.nodup_append.2 ⟨h.frn, by simp, fun a ha b hb e => ?_⟩
    simp only [List.mem_cons, List.not_mem_nil, or_false] at hb
    obtain ⟨j, e1, _, e3⟩ := h.fro a ha
    have : j = i := by omega
    exact e3 (this ▸ hi)
  · intro x hx
    have hx : x ∈ (s.fr.take s.fn ++ [(i : Int)]).take (s.fn + 1) := hx
    rw [List.take_of_length_le (by rw [List.length_append, List.length_take, Nat.min_eq_left h.fle]; exact Nat.le_refl _)] at hx
    rcases List.mem_append.1 hx with hx | hx
    · obtain ⟨j, e1, e2, e3⟩ := h.fro x hx
      exact ⟨j, e1, by show j < (rmN s i).length; rw [rmN_len]; exact e2, fun hm => e3 (List.mem_filter.1 hm).1⟩
    · simp only [List.mem_cons, List.not_mem_nil, or_false] at hx
      exact ⟨i, hx, by show i < (rmN s i).length; rw [rmN_len]; exact hil, fun hm => by simp at hm⟩
  · show (rmN s i).length = _ + (s.fn + 1)
    rw [rmN_len, hfo, h.cnt]; simp only [List.length_append, List.length_cons]; omega
  · rw [hfo]
    show DL (gN (rmN s i)) (-1) (l1 ++ l2) (-1)
    rw [DL_app]
    constructor
    · refine DL_end (gN s.nd) _ l1 (-1) _ (hdQ l2 (-1)) n1 d1 (fun j hj => ?_)
      obtain ⟨g1, g2, _⟩ := get j (in1 j hj) (ne1 j hj)
      rw [g1, g2, d2, d3]
      refine ⟨?_, rfl⟩
      rw [if_neg]
      intro e
      rcases hdQ_in l2 with ⟨q, _⟩ | ⟨b, hb, q⟩
      · omega
      · have : j = b := by omega
        exact nx j hj b (by simp [hb]) this
    · refine DL_beg (gN s.nd) _ l2 (i : Int) _ (-1) n2.2 d4 (fun j hj => ?_)
      obtain ⟨g1, g2, _⟩ := get j (in2 j hj) (ne2 j hj)
      rw [g1, g2, d2, d3]
      refine ⟨?_, rfl⟩
      rw [if_neg]
      intro e
      rcases lsQ_in l1 with ⟨q, _⟩ | ⟨b, hb, q⟩
      · omega
      · have : b = j := by omega
        exact nx b hb j (by simp [hj]) this
  · rw [hfo]
    show (if (gN s.nd i).nw = -1 then (gN s.nd i).ol else s.nw) = _
    rw [d2, d3, h.nw]
    cases l1 with
    | nil => rfl
    | cons a l =>
      obtain ⟨c, _, e⟩ := lsQ_mem (a :: l) (-1) (by simp)
      rw [e, if_neg (by omega)]; rfl
  · rw [hfo]
    show (if (gN s.nd i).ol = -1 then (gN s.nd i).nw else s.ol) = _
    rw [d2, d3, h.ol, lsQ_app, lsQ_app]
    cases l2 with
    | nil => rfl
    | cons a l => rw [if_neg (by show ¬ ((a : Int) = -1); omega)]; rfl
  · show s.siz - (gN s.nd i).cost = _
    have e1 : ((l1 ++ i :: l2).filter (fun j => decide (j ≠ i))).map (fun j => (gN (rmS s i).nd j).cost) = ((l1 ++ i :: l2).filter (fun j => decide (j ≠ i))).map (fun j => (gN s.nd j).cost) := List.map_congr_left fun j hj => (hso j hj).2.2.2.2
    rw [e1, hfo, h.siz]
    simp only [List.map_append, List.map_cons, List.sum_append, List.sum_cons]
    omega
  · exact rmM_nodup _ _ _ h.mkn
  · intro k
    show mget (rmM s.m (gN s.nd i).key _) k = _
    rw [rmM_get _ _ _ _ h.mkn]
    have e1 : ((l1 ++ i :: l2).filter (fun j => decide (j ≠ i))).filter (fun j => decide ((gN (rmS s i).nd j).key = k)) = ((l1 ++ i :: l2).filter (fun j => decide (j ≠ i))).filter (fun j => decide ((gN s.nd j).key = k)) := List.filter_congr fun j hj => by rw [(hso j hj).2.2.2.1]
    rw [e1]
    split
    · rename_i hk
      subst hk
      rw [h.mp, map_filter_ne, List.filter_filter, List.filter_filter]
      congr 1
      apply List.filter_congr
      intro j _
      exact Bool.and_comm _ _
    · rename_i hk
      rw [h.mp, List.filter_filter]
      congr 1
      apply List.filter_congr
      intro j _
      by_cases hj : j = i
      · subst hj; simp [hk]
      · simp [hj]
theorem adI_new {s : SS} {ord : List Nat} (h : SInv s ord) : adI s ∉ ord ∧ (s.fn = 0 ∧ adI s = s.nd.length ∨ 0 < s.fn ∧ adI s < s.nd.length ∧ s.fr.getD (s.fn - 1) 0 = ((adI s : Nat) : Int) ∧ ((adI s : Nat) : Int) ∉ s.fr.take (s.fn - 1)) := by
  unfold adI
  by_cases h0 : s.fn = 0
  · rw [if_pos h0]
    exact ⟨fun hm => Nat.lt_irrefl _ (h.lt _ hm), .inl ⟨h0, rfl⟩⟩
  · rw [if_neg h0]
    have hlt : s.fn - 1 < s.fr.length := by have := h.fle; omega
    have hx : s.fr.getD (s.fn - 1) 0 = s.fr[s.fn - 1] := by rw [List.getD_eq_getElem?_getD, List.getElem?_eq_getElem hlt]; rfl
    have ht : s.fr.take s.fn = s.fr.take (s.fn - 1) ++ [s.fr[s.fn - 1]] := by
      have := List.take_succ_eq_append_getElem hlt
      rw [show s.fn - 1 + 1 = s.fn by omega] at this; exact this
    obtain ⟨j, e1, e2, e3⟩ := h.fro (s.fr[s.fn - 1]) (by rw [ht]; exact List.mem_append.2 (.inr List.mem_cons_self))
    rw [hx, e1, Int.toNat_natCast]
    refine ⟨e3, .inr ⟨by omega, e2, rfl, fun hm => ?_⟩⟩
    have hn := h.frn
    rw [ht, e1] at hn
    exact (List.nodup_append.1 hn).2.2 _ hm _ (by simp) rfl
theorem adN_get (s : SS) (n : Nd) (j : Nat) (hj : j < s.nd.length ∨ s.fn = 0 ∧ j = s.nd.length) (ha : s.fn = 0 ∧ adI s = s.nd.length ∨ 0 < s.fn ∧ adI s < s.nd.length) (hk : s.nw = -1 ∨ 0 ≤ s.nw ∧ s.nw < (s.nd.length : Int)) :
    gN (adN s n) j = if (j : Int) = s.nw then { (if j = adI s then { n with nw := -1, ol := s.nw } else gN s.nd j) with nw := ((adI s : Nat) : Int) } else (if j = adI s then { n with nw := -1, ol := s.nw } else gN s.nd j) := by
  unfold adN
  simp only
  have e1 : gN (if s.fn = 0 then s.nd ++ [{ n with nw := -1, ol := s.nw }] else s.nd.modify (adI s) fun _ => { n with nw := -1, ol := s.nw }) j = (if j = adI s then { n with nw := -1, ol := s.nw } else gN s.nd j) := by
    rcases ha with ⟨h0, h1⟩ | ⟨h0, h1⟩
    · rw [if_pos h0, gN_app, h1]
    · rw [if_neg (by omega), gN_modify]
      by_cases hc : j = adI s
      · rw [if_pos ⟨hc, h1⟩, if_pos hc]
      · rw [if_neg (fun h => hc h.1), if_neg hc]
  have hl : s.nd.length ≤ (if s.fn = 0 then s.nd ++ [{ n with nw := -1, ol := s.nw }] else s.nd.modify (adI s) fun _ => { n with nw := -1, ol := s.nw }).length := by
    split
    · rw [List.length_append]; omega
    · rw [List.length_modify]; exact Nat.le_refl _
  by_cases hq : s.nw = -1
  · have hne : ¬ ((j : Int) = s.nw) := by omega
    rw [if_pos hq, e1, if_neg hne]
  · rw [if_neg hq, gN_modify, e1]
    by_cases hc : (j : Int) = s.nw
    · rw [if_pos ⟨by omega, by omega⟩, if_pos hc]
    · rw [if_neg (fun h => hc (by omega)), if_neg hc]
theorem adN_len (s : SS) (n : Nd) : (adN s n).length = if s.fn = 0 then s.nd.length + 1 else s.nd.length := by
  unfold adN; simp only
  repeat' split
  all_goals simp_all
theorem SInv_ad {s : SS} {ord : List Nat} (h : SInv s ord) (n : Nd) : SInv (adS s n) (adI s :: ord) ∧ (∀ j ∈ ord, same (gN (adS s n).nd j) (gN s.nd j)) ∧ same (gN (adS s n).nd (adI s)) n := by
  obtain ⟨hni, ha⟩ := adI_new h
  have ha' : s.fn = 0 ∧ adI s = s.nd.length ∨ 0 < s.fn ∧ adI s < s.nd.length := by
    rcases ha with h1 | ⟨h1, h2, _⟩
    · exact .inl h1
    · exact .inr ⟨h1, h2⟩
  have hk : s.nw = -1 ∨ 0 ≤ s.nw ∧ s.nw < (s.nd.length : Int) := by
    rw [h.nw]
    rcases hdQ_in ord with ⟨e, _⟩ | ⟨a, ha, e⟩
    · exact .inl e
    · rw [e]; have := h.lt a ha; exact .inr ⟨by omega, by omega⟩
  have hnwi : ((adI s : Nat) : Int) ≠ s.nw := by
    rw [h.nw]
    rcases hdQ_in ord with ⟨e, _⟩ | ⟨a, ha, e⟩
    · omega
    · intro q
      have : adI s = a := by omega
      exact hni (this ▸ ha)
  have hiB : adI s < s.nd.length ∨ s.fn = 0 ∧ adI s = s.nd.length := by
    rcases ha' with h1 | h1
    · exact .inr h1
    · exact .inl h1.2
  have hgi : gN (adN s n) (adI s) = { n with nw := -1, ol := s.nw } := by
    rw [adN_get s n _ hiB ha' hk, if_neg hnwi, if_pos rfl]
  have hgo : ∀ j ∈ ord, gN (adN s n) j = if (j : Int) = s.nw then { gN s.nd j with nw := ((adI s : Nat) : Int) } else gN s.nd j := fun j hj => by
    have hji : j ≠ adI s := fun e => hni (e ▸ hj)
    rw [adN_get s n j (.inl (h.lt j hj)) ha' hk, if_neg hji]
  have hsame : ∀ j ∈ ord, same (gN (adS s n).nd j) (gN s.nd j) := fun j hj => by
    show same (gN (adN s n) j) (gN s.nd j)
    rw [hgo j hj]; split
    · exact ⟨rfl, rfl, rfl, rfl, rfl⟩
    · exact same_refl _
  have hsi : same (gN (adS s n).nd (adI s)) n := by
    show same (gN (adN s n) (adI s)) n
    rw [hgi]; exact ⟨rfl, rfl, rfl, rfl, rfl⟩
  refine ⟨⟨List.nodup_cons.2 ⟨hni, h.nod⟩, ?_, ?_, ?_, ?_, ?_, ?_, rfl, ?_, ?_, ?_, ?_⟩, hsame, hsi⟩
  · intro j hj
    show j < (adN s n).length
    rw [adN_len]
    rcases List.mem_cons.1 hj with rfl | hj
    · split <;> omega
    · have := h.lt j hj; split <;> omega
  · show s.fn - 1 ≤ s.fr.length
    have := h.fle; omega
  · show (s.fr.take (s.fn - 1)).Nodup
    have e : s.fr.take (s.fn - 1) = (s.fr.take s.fn).take (s.fn - 1) := by rw [List.take_take, Nat.min_eq_left (by omega)]
    rw [e]; exact h.frn.sublist (List.take_sublist _ _)
  · intro x hx
    have hx : x ∈ s.fr.take (s.fn - 1) := hx
    have e : s.fr.take (s.fn - 1) = (s.fr.take s.fn).take (s.fn - 1) := by rw [List.take_take, Nat.min_eq_left (by omega)]
    obtain ⟨j, e1, e2, e3⟩ := h.fro x (by rw [e] at hx; exact List.mem_of_mem_take hx)
    refine ⟨j, e1, ?_, fun hm => ?_⟩
    · show j < (adN s n).length
      rw [adN_len]; split <;> omega
    · rcases List.mem_cons.1 hm with hm | hm
      · rcases ha with ⟨h0, _⟩ | ⟨_, _, _, h4⟩
        · rw [h0] at hx; simp at hx
        · rw [e1, hm] at hx; exact h4 hx
      · exact e3 hm
  · show (adN s n).length = (adI s :: ord).length + (s.fn - 1)
    rw [adN_len, List.length_cons]
    have := h.cnt
    split <;> omega
  · show DL (gN (adN s n)) (-1) (adI s :: ord) (-1)
    refine ⟨by rw [hgi], by rw [hgi]; exact h.nw, ?_⟩
    refine DL_beg (gN s.nd) _ ord (-1) _ (-1) h.nod h.dl (fun j hj => ?_)
    rw [hgo j hj, h.nw]
    constructor
    · split <;> rfl
    · split <;> rfl
  · show (if s.nw = -1 then ((adI s : Nat) : Int) else s.ol) = lsQ ord ((adI s : Nat) : Int)
    rw [h.nw, h.ol]
    cases ord with
    | nil => rfl
    | cons a l => rw [if_neg (by show ¬ ((a : Int) = -1); omega)]; rfl
  · show s.siz + n.cost = _
    have e1 : ord.map (fun j => (gN (adS s n).nd j).cost) = ord.map (fun j => (gN s.nd j).cost) := List.map_congr_left fun j hj => (hsame j hj).2.2.2.2
    rw [List.map_cons, List.sum_cons, e1, ← h.siz, hsi.2.2.2.2]; omega
  · exact mset_nodup _ _ _ h.mkn
  · intro k
    show mget (mset s.m n.key _) k = _
    have e1 : ord.filter (fun j => decide ((gN (adS s n).nd j).key = k)) = ord.filter (fun j => decide ((gN s.nd j).key = k)) := List.filter_congr fun j hj => by rw [(hsame j hj).2.2.2.1]
    rw [mget_set, List.filter_cons, e1, hsi.2.2.2.1]
    by_cases hk : n.key = k
    · subst hk; simp [h.mp]
    · simp [hk, h.mp]
end Go.Proofs.Ytcjbpmphkmcmjaa.so
