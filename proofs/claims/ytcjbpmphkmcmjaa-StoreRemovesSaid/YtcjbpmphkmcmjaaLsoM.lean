/- The store's order of touching: mathematics, no program. -/
import Derived.Test.YtcjbpmphkmcmjaaSz9
import Derived.Test.YtcjbpmphkmcmjaaRows
import Derived.Test.YtcjbpmphkmcmjaaLvrMatch
set_option maxRecDepth 20000
set_option linter.unusedSimpArgs false
set_option linter.unusedVariables false
namespace Go.Proofs.Ytcjbpmphkmcmjaa.so
open Go Go.Ev Go.Sy Go.RowKit Go.Proofs.Ytcjbpmphkmcmjaa.gl Go.Proofs.Ytcjbpmphkmcmjaa.tk
structure Nd where
  x : EnX
  e : List Fl
  r : List Fl
  key : ByteArray
  cost : Int
  nw : Int
  ol : Int
def exZ : EnX := ⟨.empty, .empty, .empty, .empty, 0, 0, 0, .empty, 0, 0⟩
def ndZ : Nd := ⟨exZ, [], [], .empty, 0, 0, 0⟩
def gN (l : List Nd) (i : Nat) : Nd := l.getD i ndZ
def hdQ : List Nat → Int → Int
  | [], q => q
  | a :: _, _ => (a : Int)
def lsQ : List Nat → Int → Int
  | [], p => p
  | a :: l, _ => lsQ l (a : Int)
def DL (G : Nat → Nd) (p : Int) : List Nat → Int → Prop
  | [], _ => True
  | a :: l, q => (G a).nw = p ∧ (G a).ol = hdQ l q ∧ DL G (a : Int) l q
abbrev Mp := List (ByteArray × List Int)
def mget : Mp → ByteArray → List Int
  | [], _ => []
  | p :: r, k => if p.1 = k then p.2 else mget r k
def mset : Mp → ByteArray → List Int → Mp
  | [], k, l => [(k, l)]
  | p :: r, k, l => if p.1 = k then (k, l) :: r else p :: mset r k l
def mdel : Mp → ByteArray → Mp
  | [], _ => []
  | p :: r, k => if p.1 = k then r else p :: mdel r k
structure SS where
  bud : Int
  siz : Int
  nd : List Nd
  fr : List Int
  fn : Nat
  nw : Int
  ol : Int
  m : Mp
def rmN (s : SS) (i : Nat) : List Nd :=
  let n := gN s.nd i
  let a := if n.nw = -1 then s.nd else s.nd.modify n.nw.toNat (fun y => { y with ol := n.ol })
  let b := if n.ol = -1 then a else a.modify n.ol.toNat (fun y => { y with nw := n.nw })
  b.modify i (fun _ => ndZ)
def rmM (m : Mp) (k : ByteArray) (l : List Int) : Mp := if l = [] then mdel (mset m k l) k else mset m k l
def rmS (s : SS) (i : Nat) : SS :=
  let n := gN s.nd i
  ⟨s.bud, s.siz - n.cost, rmN s i, s.fr.take s.fn ++ [(i : Int)], s.fn + 1, if n.nw = -1 then n.ol else s.nw, if n.ol = -1 then n.nw else s.ol, rmM s.m n.key ((mget s.m n.key).filter (fun k => decide (k ≠ (i : Int))))⟩
def adI (s : SS) : Nat := if s.fn = 0 then s.nd.length else (s.fr.getD (s.fn - 1) 0).toNat
def adN (s : SS) (n : Nd) : List Nd :=
  let n' := { n with nw := -1, ol := s.nw }
  let a := if s.fn = 0 then s.nd ++ [n'] else s.nd.modify (adI s) (fun _ => n')
  if s.nw = -1 then a else a.modify s.nw.toNat (fun y => { y with nw := (adI s : Int) })
def adS (s : SS) (n : Nd) : SS :=
  ⟨s.bud, s.siz + n.cost, adN s n, s.fr, s.fn - 1, (adI s : Int), if s.nw = -1 then (adI s : Int) else s.ol, mset s.m n.key ((adI s : Int) :: mget s.m n.key)⟩
structure SInv (s : SS) (ord : List Nat) : Prop where
  nod : ord.Nodup
  lt : ∀ i ∈ ord, i < s.nd.length
  fle : s.fn ≤ s.fr.length
  frn : (s.fr.take s.fn).Nodup
  fro : ∀ x ∈ s.fr.take s.fn, ∃ j : Nat, x = (j : Int) ∧ j < s.nd.length ∧ j ∉ ord
  cnt : s.nd.length = ord.length + s.fn
  dl : DL (gN s.nd) (-1) ord (-1)
  nw : s.nw = hdQ ord (-1)
  ol : s.ol = lsQ ord (-1)
  siz : s.siz = (ord.map fun i => (gN s.nd i).cost).sum
  mkn : (s.m.map (·.1)).Nodup
  mp : ∀ k, mget s.m k = (ord.filter fun i => decide ((gN s.nd i).key = k)).map Int.ofNat
def same (a b : Nd) : Prop := a.x = b.x ∧ a.e = b.e ∧ a.r = b.r ∧ a.key = b.key ∧ a.cost = b.cost
theorem gN_modify (l : List Nd) (j : Nat) (f : Nd → Nd) (i : Nat) : gN (l.modify j f) i = if i = j ∧ j < l.length then f (gN l i) else gN l i := by
  unfold gN
  rw [List.getD_eq_getElem?_getD, List.getD_eq_getElem?_getD, List.getElem?_modify]
  by_cases h : i = j
  · subst h
    by_cases h2 : i < l.length
    · rw [List.getElem?_eq_getElem h2]; simp [h2]
    · rw [List.getElem?_eq_none (by omega)]; simp [h2]
  · have : ¬ (j = i) := fun e => h e.symm
    simp [h, this]
theorem gN_app (l : List Nd) (n : Nd) (i : Nat) : gN (l ++ [n]) i = if i = l.length then n else gN l i := by
  unfold gN
  rw [List.getD_eq_getElem?_getD, List.getD_eq_getElem?_getD]
  by_cases h : i < l.length
  · rw [List.getElem?_append_left h, if_neg (by omega)]
  · by_cases h2 : i = l.length
    · subst h2; simp
    · rw [List.getElem?_eq_none (by simp; omega), List.getElem?_eq_none (by omega), if_neg h2]
theorem lsQ_mem : ∀ (l : List Nat) (p : Int), l ≠ [] → ∃ a ∈ l, lsQ l p = (a : Int)
  | [], p, h => absurd rfl h
  | [a], p, _ => ⟨a, by simp, rfl⟩
  | a :: b :: l, p, _ => by
    obtain ⟨c, h1, h2⟩ := lsQ_mem (b :: l) a (by simp)
    exact ⟨c, List.mem_cons_of_mem _ h1, h2⟩
theorem DL_app (G : Nat → Nd) : ∀ (l1 l2 : List Nat) (p q : Int), DL G p (l1 ++ l2) q ↔ DL G p l1 (hdQ l2 q) ∧ DL G (lsQ l1 p) l2 q
  | [], l2, p, q => by simp [DL, lsQ]
  | a :: l1, l2, p, q => by
    have ih := DL_app G l1 l2 (a : Int) q
    have hh : hdQ (l1 ++ l2) q = hdQ l1 (hdQ l2 q) := by cases l1 <;> rfl
    simp only [List.cons_append, DL, lsQ, ih, hh, and_assoc]
theorem DL_end (G G' : Nat → Nd) : ∀ (l : List Nat) (p q q' : Int), l.Nodup → DL G p l q → (∀ j ∈ l, (G' j).nw = (G j).nw ∧ (G' j).ol = if (j : Int) = lsQ l p then q' else (G j).ol) → DL G' p l q'
  | [], p, q, q', _, _, _ => trivial
  | a :: l, p, q, q', hn, h, hj => by
    obtain ⟨h1, h2, h3⟩ := h
    obtain ⟨k1, k2⟩ := hj a (by simp)
    have hn2 := (List.nodup_cons.1 hn)
    refine ⟨k1.trans h1, ?_, DL_end G G' l a q q' hn2.2 h3 fun j hjl => ?_⟩
    · rw [k2]
      cases l with
      | nil => simp [lsQ, hdQ]
      | cons b l =>
        obtain ⟨c, c1, c2⟩ := lsQ_mem (b :: l) a (by simp)
        have : lsQ (a :: b :: l) p = (c : Int) := c2
        have hne : ¬ ((a : Int) = (c : Int)) := fun e => by
          have e2 : a = c := by omega
          exact hn2.1 (e2 ▸ c1)
        rw [this, if_neg hne]
        exact h2
    · obtain ⟨m1, m2⟩ := hj j (List.mem_cons_of_mem _ hjl)
      refine ⟨m1, ?_⟩
      rw [m2]
      rfl
theorem DL_congr (G G' : Nat → Nd) : ∀ (l : List Nat) (p q : Int), DL G p l q → (∀ j ∈ l, (G' j).nw = (G j).nw ∧ (G' j).ol = (G j).ol) → DL G' p l q
  | [], _, _, _, _ => trivial
  | a :: l, p, q, h, hj => by
    obtain ⟨h1, h2, h3⟩ := h
    obtain ⟨k1, k2⟩ := hj a (by simp)
    exact ⟨k1.trans h1, k2.trans h2, DL_congr G G' l a q h3 fun j hl => hj j (List.mem_cons_of_mem _ hl)⟩
theorem DL_beg (G G' : Nat → Nd) (l : List Nat) (p p' q : Int) (hn : l.Nodup) (h : DL G p l q) (hj : ∀ j ∈ l, (G' j).ol = (G j).ol ∧ (G' j).nw = if (j : Int) = hdQ l (-1) then p' else (G j).nw) : DL G' p' l q := by
  cases l with
  | nil => trivial
  | cons a l =>
    obtain ⟨h1, h2, h3⟩ := h
    obtain ⟨k1, k2⟩ := hj a (by simp)
    have hn2 := List.nodup_cons.1 hn
    refine ⟨by rw [k2]; exact if_pos rfl, k1.trans h2, DL_congr G G' l a q h3 fun j hl => ?_⟩
    obtain ⟨m1, m2⟩ := hj j (List.mem_cons_of_mem _ hl)
    refine ⟨?_, m1⟩
    have hne : ¬ ((j : Int) = hdQ (a :: l) (-1)) := fun e => by
      have e : (j : Int) = (a : Int) := e
      have e2 : j = a := by omega
      exact hn2.1 (e2 ▸ hl)
    rw [m2, if_neg hne]
theorem mget_set : ∀ (m : Mp) (k k' : ByteArray) (l : List Int), mget (mset m k l) k' = if k = k' then l else mget m k'
  | [], k, k', l => by simp only [mset, mget]
  | p :: r, k, k', l => by
    unfold mset
    by_cases h : p.1 = k
    · rw [if_pos h]
      simp only [mget]
      by_cases h2 : k = k'
      · simp [h2]
      · simp [h2, show ¬ p.1 = k' from fun e => h2 (h.symm.trans e)]
    · rw [if_neg h]
      simp only [mget]
      rw [mget_set r k k' l]
      by_cases h2 : p.1 = k'
      · simp [h2, show ¬ k = k' from fun e => h (h2.trans e.symm)]
      · simp [h2]
theorem mset_keys : ∀ (m : Mp) (k : ByteArray) (l : List Int) (x : ByteArray), x ∈ (mset m k l).map (·.1) → x = k ∨ x ∈ m.map (·.1)
  | [], k, l, x, h => by simp [mset] at h; exact .inl h
  | p :: r, k, l, x, h => by
    unfold mset at h
    by_cases hp : p.1 = k
    · rw [if_pos hp] at h
      simp only [List.map_cons, List.mem_cons] at h ⊢
      rcases h with h | h
      · exact .inl h
      · exact .inr (.inr h)
    · rw [if_neg hp] at h
      simp only [List.map_cons, List.mem_cons] at h ⊢
      rcases h with h | h
      · exact .inr (.inl h)
      · rcases mset_keys r k l x h with h | h
        · exact .inl h
        · exact .inr (.inr h)
theorem mset_nodup : ∀ (m : Mp) (k : ByteArray) (l : List Int), (m.map (·.1)).Nodup → ((mset m k l).map (·.1)).Nodup
  | [], k, l, _ => by simp [mset]
  | p :: r, k, l, h => by
    unfold mset
    have h2 := List.nodup_cons.1 h
    by_cases hp : p.1 = k
    · rw [if_pos hp]
      simp only [List.map_cons]
      rw [← hp]; exact h
    · rw [if_neg hp]
      simp only [List.map_cons]
      refine List.nodup_cons.2 ⟨fun hm => ?_, mset_nodup r k l h2.2⟩
      rcases mset_keys r k l _ hm with e | e
      · exact hp e
      · exact h2.1 e
theorem mdel_keys : ∀ (m : Mp) (k x : ByteArray), x ∈ (mdel m k).map (·.1) → x ∈ m.map (·.1)
  | [], k, x, h => by simp [mdel] at h
  | p :: r, k, x, h => by
    unfold mdel at h
    by_cases hp : p.1 = k
    · rw [if_pos hp] at h; simp only [List.map_cons, List.mem_cons]; exact .inr h
    · rw [if_neg hp] at h
      simp only [List.map_cons, List.mem_cons] at h ⊢
      rcases h with h | h
      · exact .inl h
      · exact .inr (mdel_keys r k x h)
theorem mdel_nodup : ∀ (m : Mp) (k : ByteArray), (m.map (·.1)).Nodup → ((mdel m k).map (·.1)).Nodup
  | [], k, h => h
  | p :: r, k, h => by
    unfold mdel
    have h2 := List.nodup_cons.1 h
    by_cases hp : p.1 = k
    · rw [if_pos hp]; exact h2.2
    · rw [if_neg hp]
      simp only [List.map_cons]
      exact List.nodup_cons.2 ⟨fun hm => h2.1 (mdel_keys r k _ hm), mdel_nodup r k h2.2⟩
theorem mget_none : ∀ (m : Mp) (k : ByteArray), k ∉ m.map (·.1) → mget m k = []
  | [], k, _ => rfl
  | p :: r, k, h => by
    simp only [List.map_cons, List.mem_cons, not_or] at h
    unfold mget
    rw [if_neg (fun e => h.1 e.symm)]
    exact mget_none r k h.2
theorem mget_del : ∀ (m : Mp) (k k' : ByteArray), (m.map (·.1)).Nodup → mget (mdel m k) k' = if k = k' then [] else mget m k'
  | [], k, k', _ => by simp [mdel, mget]
  | p :: r, k, k', h => by
    have h2 := List.nodup_cons.1 h
    unfold mdel
    by_cases hp : p.1 = k
    · rw [if_pos hp]
      by_cases e : k = k'
      · rw [if_pos e, ← e, ← hp]; exact mget_none r _ h2.1
      · rw [if_neg e]; simp only [mget]; rw [if_neg (fun e2 => e (hp.symm.trans e2))]
    · rw [if_neg hp]
      simp only [mget]
      rw [mget_del r k k' h2.2]
      by_cases e : p.1 = k'
      · simp [e, show ¬ k = k' from fun e2 => hp (e.trans e2.symm)]
      · simp [e]
theorem rmM_get (m : Mp) (k k' : ByteArray) (l : List Int) (h : (m.map (·.1)).Nodup) : mget (rmM m k l) k' = if k = k' then l else mget m k' := by
  unfold rmM
  split
  · rename_i hl
    rw [mget_del _ _ _ (mset_nodup m k l h), mget_set]
    by_cases e : k = k' <;> simp [e, hl]
  · exact mget_set m k k' l
theorem rmM_nodup (m : Mp) (k : ByteArray) (l : List Int) (h : (m.map (·.1)).Nodup) : ((rmM m k l).map (·.1)).Nodup := by
  unfold rmM
  split
  · exact mdel_nodup _ _ (mset_nodup m k l h)
  · exact mset_nodup m k l h
theorem rmN_len (s : SS) (i : Nat) : (rmN s i).length = s.nd.length := by
  unfold rmN; simp only; repeat' split
  all_goals simp
theorem map_filter_ne (l : List Nat) (i : Nat) : (l.map Int.ofNat).filter (fun k => decide (k ≠ (i : Int))) = (l.filter (fun j => decide (j ≠ i))).map Int.ofNat := by
  rw [List.filter_map]
  congr 1
  apply List.filter_congr
  intro j _
  simp only [Function.comp, decide_eq_decide]
  constructor
  · intro h e; exact h (by rw [e]; rfl)
  · intro h e
    have e2 : (j : Int) = (i : Int) := e
    exact h (by omega)
theorem filter_out {l1 l2 : List Nat} {i : Nat} (h : (l1 ++ i :: l2).Nodup) : (l1 ++ i :: l2).filter (fun j => decide (j ≠ i)) = l1 ++ l2 := by
  have h1 : i ∉ l1 := fun hm => (List.nodup_append.1 h).2.2 i hm i (by simp) rfl
  have h2 : i ∉ l2 := (List.nodup_cons.1 (List.nodup_append.1 h).2.1).1
  rw [List.filter_append, List.filter_cons_of_neg (by simp)]
  rw [List.filter_eq_self.2 (fun a ha => by simp; intro e; exact h1 (e ▸ ha)), List.filter_eq_self.2 (fun a ha => by simp; intro e; exact h2 (e ▸ ha))]
end Go.Proofs.Ytcjbpmphkmcmjaa.so
