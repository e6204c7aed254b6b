/- Requests: what order and place of fields come to. -/
import Derived.Test.YteodlmfnkjdhhaaSz9
import Derived.Test.YteodlmfnkjdhhaaRows
import Derived.Test.YteodlmfnkjdhhaaLmsBase
set_option linter.unusedSimpArgs false
set_option linter.unusedVariables false
namespace Go.Proofs.Yteodlmfnkjdhhaa.tk
open Go Go.Ev Go.Sy Go.RowKit Go.Proofs.Yteodlmfnkjdhhaa.gl
theorem col_no (n : List UInt8) (h : colB n = true) : tokL n = false := by
  cases n with
  | nil => rfl
  | cons c r =>
    have : c = 58 := by simpa [colB] using h
    subst this
    unfold tokL allTk
    rw [List.all_cons, show tokN (58 : UInt8).toNat = false from by decide]; rfl
theorem pl_col (r : List Fl) (h : plL r = true) : ∀ f ∈ r, colB f.n = false := fun f hf => by
  have := List.all_eq_true.1 h f hf
  cases hc : colB f.n with
  | false => rfl
  | true => unfold plF at this; rw [col_no _ hc] at this; simp at this
theorem nmIn_app (nm : List UInt8) (l : List Fl) (f : Fl) : nmIn nm (l ++ [f]) = (nmIn nm l || decide (f.n = nm)) := by unfold nmIn; rw [List.any_append]; simp
theorem rqG_ok (done : List Fl) (r r' : RqP) (f : Fl) (l : List Fl) (h1 : nmIn f.n done = false) (h2 : setP r f = some r') : rqG done r (f :: l) = if valL f.v then rqG (done ++ [f]) r' l else none := by
  rw [rqG, h1, h2]
  cases valL f.v <;> rfl
/-- All four names stand there: no further one may. -/
theorem rqG_full (done : List Fl) (r : RqP) (l : List Fl) (h1 : nmIn sMet done = true) (h2 : nmIn sSch done = true) (h3 : nmIn sAut done = true) (h4 : nmIn sPat done = true) : rqG done r l = if l = [] then some r else none := by
  cases l with
  | nil => rfl
  | cons f l =>
    rw [if_neg (by simp), rqG]
    split
    · rename_i hk
      have hn : nmIn f.n done = false := by simp at hk; exact hk.2
      have : setP r f = none := by
        unfold setP
        rw [if_neg (fun e => by rw [e, h1] at hn; simp at hn), if_neg (fun e => by rw [e, h2] at hn; simp at hn), if_neg (fun e => by rw [e, h3] at hn; simp at hn), if_neg (fun e => by rw [e, h4] at hn; simp at hn)]
      rw [this]
    · rfl
/-- A field that sets nothing. -/
theorem rqG_bad : ∀ (l done : List Fl) (r : RqP), (∃ f ∈ l, ∀ r, setP r f = none) → rqG done r l = none
  | [], _, _, h => by obtain ⟨f, hf, _⟩ := h; simp at hf
  | g :: l, done, r, h => by
    rw [rqG]
    split
    · split
      · rfl
      · rename_i r' hr'
        obtain ⟨f, hf, hs⟩ := h
        rcases List.mem_cons.1 hf with rfl | hf
        · rw [hs] at hr'; simp at hr'
        · exact rqG_bad l _ r' ⟨f, hf, hs⟩
    · rfl
def VlP (r : RqP) : Prop := valL r.m = true ∧ valL r.s = true ∧ valL r.a = true ∧ valL r.p = true
theorem rqG_val : ∀ (l done : List Fl) (r y : RqP), VlP r → rqG done r l = some y → VlP y
  | [], _, r, y, hr, h => by simp [rqG] at h; subst h; exact hr
  | f :: l, done, r, y, hr, h => by
    rw [rqG] at h
    split at h
    · rename_i hk
      have hv : valL f.v = true := by simp at hk; exact hk.1
      split at h
      · simp at h
      · rename_i r' hr'
        refine rqG_val l _ r' y ?_ h
        obtain ⟨a, b, c, d⟩ := hr
        unfold setP at hr'
        split at hr'
        · simp at hr'; subst hr'; exact ⟨hv, b, c, d⟩
        · split at hr'
          · simp at hr'; subst hr'; exact ⟨a, hv, c, d⟩
          · split at hr'
            · simp at hr'; subst hr'; exact ⟨a, b, hv, d⟩
            · split at hr'
              · simp at hr'; subst hr'; exact ⟨a, b, c, hv⟩
              · simp at hr'
    · simp at h
theorem psN_app (F l : List Fl) (h : ∀ f ∈ F, colB f.n = true) : psN (F ++ l) = F.length + psN l := by
  unfold psN
  rw [List.takeWhile_append_of_pos h, List.length_append]
theorem setP_met (r : RqP) (v : List UInt8) : setP r ⟨sMet, v⟩ = some ⟨v, r.s, r.a, r.p⟩ := by unfold setP; rw [if_pos rfl]
theorem setP_sch (r : RqP) (v : List UInt8) : setP r ⟨sSch, v⟩ = some ⟨r.m, v, r.a, r.p⟩ := by unfold setP; rw [if_neg (show ¬ sSch = sMet by decide), if_pos rfl]
theorem setP_aut (r : RqP) (v : List UInt8) : setP r ⟨sAut, v⟩ = some ⟨r.m, r.s, v, r.p⟩ := by unfold setP; rw [if_neg (show ¬ sAut = sMet by decide), if_neg (show ¬ sAut = sSch by decide), if_pos rfl]
theorem setP_pat (r : RqP) (v : List UInt8) : setP r ⟨sPat, v⟩ = some ⟨r.m, r.s, r.a, v⟩ := by unfold setP; rw [if_neg (show ¬ sPat = sMet by decide), if_neg (show ¬ sPat = sSch by decide), if_neg (show ¬ sPat = sAut by decide), if_pos rfl]
/-- What a request with the four fields ahead comes to. -/
def rqF4 (m s a p : List UInt8) (l : List Fl) : Option RqO :=
  if (valL m && (valL s && (valL a && valL p))) && decide (psN l = 0) then
    (if plL l && (!decide (lenL l = -2) && cpB ⟨m, s, a, p⟩) then some ⟨⟨m, s, a, p⟩, lenL l, l⟩ else none) else none
theorem four_gen (F l : List Fl) (m s a p : List UInt8) (hc : ∀ f ∈ F, colB f.n = true) (hG : ∀ T, rqG [] rq0 (F ++ T) = if valL m && (valL s && (valL a && valL p)) then (if T = [] then some ⟨m, s, a, p⟩ else none) else none) : rqL (F ++ l) = rqF4 m s a p l := by
  have h1 := psN_app F l hc
  have ht : (F ++ l).take (psN (F ++ l)) = F ++ l.take (psN l) := by rw [h1, List.take_length_add_append]
  have hd : (F ++ l).drop (psN (F ++ l)) = l.drop (psN l) := by rw [h1, List.drop_length_add_append]
  unfold rqL rqF4
  rw [ht, hd, hG]
  by_cases hv : (valL m && (valL s && (valL a && valL p))) = true
  · rw [if_pos hv]
    by_cases h0 : psN l = 0
    · rw [if_pos (by rw [h0]; rfl), h0, List.drop_zero, if_pos (by simp [hv])]
    · rw [if_neg (fun e => h0 (by
        have := List.take_eq_nil_iff.1 e
        rcases this with h | h
        · exact h
        · rw [h]; rfl)), if_neg (by simp [h0])]
  · rw [if_neg hv, if_neg (by intro h; simp at h; simp [h] at hv)]
theorem four_msap (m s a p : List UInt8) (l : List Fl) : rqL ([⟨sMet, m⟩, ⟨sSch, s⟩, ⟨sAut, a⟩, ⟨sPat, p⟩] ++ l) = rqF4 m s a p l := by
  refine four_gen _ l m s a p (fun f hf => by simp at hf; rcases hf with rfl | rfl | rfl | rfl <;> rfl) (fun T => ?_)
  simp only [List.cons_append, List.nil_append]
  rw [rqG_ok _ _ _ _ _ (by rfl) (setP_met _ _)]
  rw [rqG_ok _ _ _ _ _ (by rfl) (setP_sch _ _)]
  rw [rqG_ok _ _ _ _ _ (by rfl) (setP_aut _ _)]
  rw [rqG_ok _ _ _ _ _ (by rfl) (setP_pat _ _)]
  rw [rqG_full _ _ _ (by rfl) (by rfl) (by rfl) (by rfl)]
  simp only [rq0]
  cases valL m <;> cases valL s <;> cases valL a <;> cases valL p <;> rfl
theorem four_sapm (m s a p : List UInt8) (l : List Fl) : rqL ([⟨sSch, s⟩, ⟨sAut, a⟩, ⟨sPat, p⟩, ⟨sMet, m⟩] ++ l) = rqF4 m s a p l := by
  refine four_gen _ l m s a p (fun f hf => by simp at hf; rcases hf with rfl | rfl | rfl | rfl <;> rfl) (fun T => ?_)
  simp only [List.cons_append, List.nil_append]
  rw [rqG_ok _ _ _ _ _ (by rfl) (setP_sch _ _)]
  rw [rqG_ok _ _ _ _ _ (by rfl) (setP_aut _ _)]
  rw [rqG_ok _ _ _ _ _ (by rfl) (setP_pat _ _)]
  rw [rqG_ok _ _ _ _ _ (by rfl) (setP_met _ _)]
  rw [rqG_full _ _ _ (by rfl) (by rfl) (by rfl) (by rfl)]
  simp only [rq0]
  cases valL m <;> cases valL s <;> cases valL a <;> cases valL p <;> rfl
theorem four_apms (m s a p : List UInt8) (l : List Fl) : rqL ([⟨sAut, a⟩, ⟨sPat, p⟩, ⟨sMet, m⟩, ⟨sSch, s⟩] ++ l) = rqF4 m s a p l := by
  refine four_gen _ l m s a p (fun f hf => by simp at hf; rcases hf with rfl | rfl | rfl | rfl <;> rfl) (fun T => ?_)
  simp only [List.cons_append, List.nil_append]
  rw [rqG_ok _ _ _ _ _ (by rfl) (setP_aut _ _)]
  rw [rqG_ok _ _ _ _ _ (by rfl) (setP_pat _ _)]
  rw [rqG_ok _ _ _ _ _ (by rfl) (setP_met _ _)]
  rw [rqG_ok _ _ _ _ _ (by rfl) (setP_sch _ _)]
  rw [rqG_full _ _ _ (by rfl) (by rfl) (by rfl) (by rfl)]
  simp only [rq0]
  cases valL m <;> cases valL s <;> cases valL a <;> cases valL p <;> rfl
theorem four_pmsa (m s a p : List UInt8) (l : List Fl) : rqL ([⟨sPat, p⟩, ⟨sMet, m⟩, ⟨sSch, s⟩, ⟨sAut, a⟩] ++ l) = rqF4 m s a p l := by
  refine four_gen _ l m s a p (fun f hf => by simp at hf; rcases hf with rfl | rfl | rfl | rfl <;> rfl) (fun T => ?_)
  simp only [List.cons_append, List.nil_append]
  rw [rqG_ok _ _ _ _ _ (by rfl) (setP_pat _ _)]
  rw [rqG_ok _ _ _ _ _ (by rfl) (setP_met _ _)]
  rw [rqG_ok _ _ _ _ _ (by rfl) (setP_sch _ _)]
  rw [rqG_ok _ _ _ _ _ (by rfl) (setP_aut _ _)]
  rw [rqG_full _ _ _ (by rfl) (by rfl) (by rfl) (by rfl)]
  simp only [rq0]
  cases valL m <;> cases valL s <;> cases valL a <;> cases valL p <;> rfl
theorem four_pmas (m s a p : List UInt8) (l : List Fl) : rqL ([⟨sPat, p⟩, ⟨sMet, m⟩, ⟨sAut, a⟩, ⟨sSch, s⟩] ++ l) = rqF4 m s a p l := by
  refine four_gen _ l m s a p (fun f hf => by simp at hf; rcases hf with rfl | rfl | rfl | rfl <;> rfl) (fun T => ?_)
  simp only [List.cons_append, List.nil_append]
  rw [rqG_ok _ _ _ _ _ (by rfl) (setP_pat _ _)]
  rw [rqG_ok _ _ _ _ _ (by rfl) (setP_met _ _)]
  rw [rqG_ok _ _ _ _ _ (by rfl) (setP_aut _ _)]
  rw [rqG_ok _ _ _ _ _ (by rfl) (setP_sch _ _)]
  rw [rqG_full _ _ _ (by rfl) (by rfl) (by rfl) (by rfl)]
  simp only [rq0]
  cases valL m <;> cases valL s <;> cases valL a <;> cases valL p <;> rfl
end Go.Proofs.Yteodlmfnkjdhhaa.tk
