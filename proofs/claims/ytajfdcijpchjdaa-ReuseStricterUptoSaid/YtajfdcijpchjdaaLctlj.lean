/- What two lists of pairs say together. -/
import Derived.Test.YtajfdcijpchjdaaSz9
import Derived.Test.YtajfdcijpchjdaaRows
import Derived.Test.YtajfdcijpchjdaaLk9
import Derived.Test.YtajfdcijpchjdaaLjoin
set_option maxRecDepth 20000
set_option linter.unusedSimpArgs false
set_option linter.unusedVariables false
namespace Go.Proofs.Ytajfdcijpchjdaa.tk
open Go Go.Ev Go.Sy Go.RowKit Go.Proofs.Ytajfdcijpchjdaa.gl
def comb (a b : Int) : Int := if a = -1 then b else if b = -1 then a else min a b
def tMa (p : Pr) : Int := if p.n = sMaxAge then numN p else -1
def tSh (p : Pr) : Int := if p.n = sShared then numN p else -1
def tFr (p : Pr) : Int := if p.n = sMinFresh then numN p else -1
def tSt (p : Pr) : Int := if p.n = sMaxStale then (if p.h then numN p else 2147483647) else -1
theorem fold_flag (f : Ct → Bool) (t : Pr → Bool) (h : ∀ c p, f (stepC c p) = (f c || t p)) : ∀ (l : List Pr) (c : Ct), f (l.foldl stepC c) = (f c || l.any t)
  | [], c => by simp
  | p :: l, c => by rw [List.foldl_cons, fold_flag f t h l, h, List.any_cons, Bool.or_assoc]
theorem fold_num (f : Ct → Int) (t : Pr → Int) (h : ∀ c p, f (stepC c p) = comb (f c) (t p)) (ht : ∀ p, -1 ≤ t p) : ∀ (l : List Pr) (c : Ct), f (l.foldl stepC c) = comb (f c) (l.foldl (fun a p => comb a (t p)) (-1)) ∧ -1 ≤ l.foldl (fun a p => comb a (t p)) (-1) := by
  have hc : ∀ (l : List Pr) (a : Int), -1 ≤ a → l.foldl (fun a p => comb a (t p)) a = comb a (l.foldl (fun a p => comb a (t p)) (-1)) ∧ -1 ≤ l.foldl (fun a p => comb a (t p)) a := by
    intro l
    induction l with
    | nil => intro a ha; unfold comb; simp only [List.foldl_nil]; exact ⟨by split <;> simp_all, ha⟩
    | cons p l ih =>
      intro a ha
      have hp := ht p
      simp only [List.foldl_cons]
      have h1 : -1 ≤ comb a (t p) := by unfold comb; split <;> (try split) <;> omega
      have h2 : -1 ≤ comb (-1) (t p) := by unfold comb; split <;> (try split) <;> omega
      obtain ⟨i1, i2⟩ := ih (comb a (t p)) h1
      obtain ⟨i3, i4⟩ := ih (comb (-1) (t p)) h2
      obtain ⟨_, i5⟩ := ih (-1) (by omega)
      refine ⟨?_, i2⟩
      rw [i1, i3]
      unfold comb
      grind
  intro l
  induction l with
  | nil => intro c; unfold comb; simp
  | cons p l ih =>
    intro c
    simp only [List.foldl_cons]
    obtain ⟨i1, i2⟩ := ih (stepC c p)
    have hp := ht p
    have h2 : -1 ≤ comb (-1) (t p) := by unfold comb; split <;> (try split) <;> omega
    obtain ⟨i3, i4⟩ := hc l (comb (-1) (t p)) h2
    refine ⟨?_, i4⟩
    rw [i1, h, i3]
    unfold comb
    grind
theorem numN_bd (p : Pr) : 0 ≤ numN p ∧ numN p ≤ 2147483647 := by have := secL_bd p.v; unfold numN; split <;> omega
theorem t_ge (p : Pr) : -1 ≤ tMa p ∧ -1 ≤ tSh p ∧ -1 ≤ tFr p ∧ -1 ≤ tSt p := by
  have := numN_bd p
  unfold tMa tSh tFr tSt
  refine ⟨?_, ?_, ?_, ?_⟩ <;> split <;> (try split) <;> omega
theorem step_num (c : Ct) (p : Pr) : (stepC c p).ma = comb c.ma (tMa p) ∧ (stepC c p).sh = comb c.sh (tSh p) ∧ (stepC c p).fr = comb c.fr (tFr p) ∧ (stepC c p).st = comb c.st (tSt p) := by
  have h := numN_bd p
  unfold stepC numC flagC smal comb tMa tSh tFr tSt
  simp only
  refine ⟨?_, ?_, ?_, ?_⟩ <;> grind
theorem step_flag (c : Ct) (p : Pr) : (stepC c p).ns = (c.ns || decide (p.n = sNoStore)) ∧ (stepC c p).nc = (c.nc || decide (p.n = sNoCache)) ∧ (stepC c p).pv = (c.pv || decide (p.n = sPrivate)) ∧ (stepC c p).pb = (c.pb || decide (p.n = sPublic)) ∧
    (stepC c p).ms = (c.ms || (decide (p.n = sMust) || decide (p.n = sProxy))) ∧ (stepC c p).on = (c.on || decide (p.n = sOnly)) := ⟨rfl, rfl, rfl, rfl, rfl, rfl⟩
theorem ctl_join (p q : List Pr) : (ctlP (p ++ q)).ns = ((ctlP p).ns || (ctlP q).ns) ∧ (ctlP (p ++ q)).nc = ((ctlP p).nc || (ctlP q).nc) ∧ (ctlP (p ++ q)).pv = ((ctlP p).pv || (ctlP q).pv) ∧ (ctlP (p ++ q)).pb = ((ctlP p).pb || (ctlP q).pb) ∧
    (ctlP (p ++ q)).ms = ((ctlP p).ms || (ctlP q).ms) ∧ (ctlP (p ++ q)).on = ((ctlP p).on || (ctlP q).on) ∧
    (ctlP (p ++ q)).ma = comb (ctlP p).ma (ctlP q).ma ∧ (ctlP (p ++ q)).sh = comb (ctlP p).sh (ctlP q).sh ∧ (ctlP (p ++ q)).fr = comb (ctlP p).fr (ctlP q).fr ∧ (ctlP (p ++ q)).st = comb (ctlP p).st (ctlP q).st := by
  unfold ctlP
  have fl : ∀ (f : Ct → Bool) (t : Pr → Bool), (∀ c p, f (stepC c p) = (f c || t p)) → f c0 = false → f ((p ++ q).foldl stepC c0) = (f (p.foldl stepC c0) || f (q.foldl stepC c0)) := fun f t h h0 => by
    rw [fold_flag f t h, fold_flag f t h, fold_flag f t h, h0, List.any_append]; simp
  have nm : ∀ (f : Ct → Int) (t : Pr → Int), (∀ c p, f (stepC c p) = comb (f c) (t p)) → (∀ p, -1 ≤ t p) → f c0 = -1 → f ((p ++ q).foldl stepC c0) = comb (f (p.foldl stepC c0)) (f (q.foldl stepC c0)) := fun f t h ht h0 => by
    rw [List.foldl_append, (fold_num f t h ht q _).1]
    congr 1
    rw [(fold_num f t h ht q c0).1, h0]; rfl
  exact ⟨fl _ _ (fun c p => (step_flag c p).1) rfl, fl _ _ (fun c p => (step_flag c p).2.1) rfl, fl _ _ (fun c p => (step_flag c p).2.2.1) rfl, fl _ _ (fun c p => (step_flag c p).2.2.2.1) rfl, fl _ _ (fun c p => (step_flag c p).2.2.2.2.1) rfl, fl _ _ (fun c p => (step_flag c p).2.2.2.2.2) rfl,
    nm _ _ (fun c p => (step_num c p).1) (fun p => (t_ge p).1) rfl, nm _ _ (fun c p => (step_num c p).2.1) (fun p => (t_ge p).2.1) rfl, nm _ _ (fun c p => (step_num c p).2.2.1) (fun p => (t_ge p).2.2.1) rfl, nm _ _ (fun c p => (step_num c p).2.2.2) (fun p => (t_ge p).2.2.2) rfl⟩
theorem ctl_ge (p : List Pr) : -1 ≤ (ctlP p).ma ∧ -1 ≤ (ctlP p).sh ∧ -1 ≤ (ctlP p).fr ∧ -1 ≤ (ctlP p).st := by
  unfold ctlP
  have nm : ∀ (f : Ct → Int) (t : Pr → Int), (∀ c p, f (stepC c p) = comb (f c) (t p)) → (∀ p, -1 ≤ t p) → f c0 = -1 → -1 ≤ f (p.foldl stepC c0) := fun f t h ht h0 => by
    obtain ⟨h1, h2⟩ := fold_num f t h ht p c0
    have e : ∀ x : Int, comb (-1) x = x := fun x => by unfold comb; simp
    rw [h1, h0, e]; exact h2
  exact ⟨nm _ _ (fun c p => (step_num c p).1) (fun p => (t_ge p).1) rfl, nm _ _ (fun c p => (step_num c p).2.1) (fun p => (t_ge p).2.1) rfl, nm _ _ (fun c p => (step_num c p).2.2.1) (fun p => (t_ge p).2.2.1) rfl, nm _ _ (fun c p => (step_num c p).2.2.2) (fun p => (t_ge p).2.2.2) rfl⟩
theorem ctlL_app (a b : List Fl) (ha : okF sCC a = true) (hb : okF sCC b = true) : ctlL (a ++ b) = ctlP (pairsL a sCC ++ pairsL b sCC) := by unfold ctlL; rw [pairs_app _ _ _ ha hb]
end Go.Proofs.Ytajfdcijpchjdaa.tk
