/- What requests and responses come to, rewritten. -/
import Derived.Test.YteodlmfnkjdhhaaSz9
import Derived.Test.YteodlmfnkjdhhaaRows
import Derived.Test.YteodlmfnkjdhhaaLmsReq
import Derived.Test.YteodlmfnkjdhhaaLmsMath
set_option linter.unusedSimpArgs false
set_option linter.unusedVariables false
namespace Go.Proofs.Yteodlmfnkjdhhaa.tk
open Go Go.Ev Go.Sy Go.RowKit Go.Proofs.Yteodlmfnkjdhhaa.gl
theorem n_rqC (l : List Fl) (b : Bool) (o : Ob) : rqC ⟨gC enF l, b, o⟩ = gC enF (rqZ (rqL l)).f := by unfold rqC; simp only; rw [decF_gC]
theorem n_rqN (l : List Fl) (b : Bool) (o : Ob) : rqN ⟨gC enF l, b, o⟩ = (rqZ (rqL l)).f.length := by unfold rqN; simp only; rw [decF_gC]
theorem n_rsC (l : List Fl) (b : Bool) (o : Ob) : rsC ⟨gC enF l, b, o⟩ = gC enF (rsZ (rsL l)).f := by unfold rsC; simp only; rw [decF_gC]
theorem n_rsN (l : List Fl) (b : Bool) (o : Ob) : rsN ⟨gC enF l, b, o⟩ = (rsZ (rsL l)).f.length := by unfold rsN; simp only; rw [decF_gC]
theorem n_rqB (l : List Fl) (b : Bool) (o : Ob) : rqB ⟨gC enF l, b, o⟩ = (rqL l).isSome := by unfold rqB; simp only; rw [decF_gC]
theorem n_rsB (l : List Fl) (b : Bool) (o : Ob) : rsB ⟨gC enF l, b, o⟩ = (rsL l).isSome := by unfold rsB; simp only; rw [decF_gC]
theorem n_rqM (l : List Fl) (b : Bool) (o : Ob) : rqM ⟨gC enF l, b, o⟩ = bs (rqZ (rqL l)).r.m := by unfold rqM; simp only; rw [decF_gC]
theorem n_rqS (l : List Fl) (b : Bool) (o : Ob) : rqS ⟨gC enF l, b, o⟩ = bs (rqZ (rqL l)).r.s := by unfold rqS; simp only; rw [decF_gC]
theorem n_rqA (l : List Fl) (b : Bool) (o : Ob) : rqA ⟨gC enF l, b, o⟩ = bs (rqZ (rqL l)).r.a := by unfold rqA; simp only; rw [decF_gC]
theorem n_rqP (l : List Fl) (b : Bool) (o : Ob) : rqP ⟨gC enF l, b, o⟩ = bs (rqZ (rqL l)).r.p := by unfold rqP; simp only; rw [decF_gC]
theorem n_rqK (l : List Fl) (b : Bool) (o : Ob) : rqK ⟨gC enF l, b, o⟩ = (rqZ (rqL l)).k := by unfold rqK; simp only; rw [decF_gC]
theorem n_rsS (l : List Fl) (b : Bool) (o : Ob) : rsS ⟨gC enF l, b, o⟩ = (rsZ (rsL l)).st := by unfold rsS; simp only; rw [decF_gC]
theorem n_rsK (l : List Fl) (b : Bool) (o : Ob) : rsK ⟨gC enF l, b, o⟩ = (rsZ (rsL l)).k := by unfold rsK; simp only; rw [decF_gC]
theorem rq_len (l : List Fl) : (rqZ (rqL l)).f.length ≤ l.length := by
  unfold rqL
  split
  · exact Nat.zero_le _
  · split
    · show (l.drop (psN l)).length ≤ l.length; simp
    · exact Nat.zero_le _
theorem rs_len (l : List Fl) : (rsZ (rsL l)).f.length ≤ l.length := by
  cases l with
  | nil => exact Nat.zero_le _
  | cons f r =>
    have hr : rsL (f :: r) = if f.n = sSta then (match digL f.v 3 3 with
      | none => none
      | some s => if stOk s && (plL r && !decide (lenL r = -2)) then some ⟨s, lenL r, r⟩ else none) else none := rfl
    rw [hr]
    by_cases hn : f.n = sSta
    · rw [if_pos hn]
      cases digL f.v 3 3 with
      | none => exact Nat.zero_le _
      | some m =>
        simp only
        split
        · show r.length ≤ (f :: r).length; simp
        · exact Nat.zero_le _
    · rw [if_neg hn]; exact Nat.zero_le _
theorem ps_pl (l : List Fl) (h : psN l ≠ 0) : plL l = false := by
  cases l with
  | nil => exact absurd rfl h
  | cons f r =>
    have hc : colB f.n = true := by
      cases hb : colB f.n with
      | true => rfl
      | false => exact absurd (by unfold psN; rw [List.takeWhile_cons, if_neg (by simp [hb])]; rfl) h
    unfold plL plF
    rw [List.all_cons, col_no _ hc]; rfl
end Go.Proofs.Yteodlmfnkjdhhaa.tk
