/- Facts about what frames say. -/
import Derived.Test.YtagahikocoggcaaSz9
import Derived.Test.YtagahikocoggcaaRows
import Derived.Test.YtagahikocoggcaaLshP
set_option maxRecDepth 20000
set_option linter.unusedSimpArgs false
set_option linter.unusedVariables false
namespace Go.Proofs.Ytagahikocoggcaa.sh
open Go Go.Ev Go.Sy Go.RowKit Go.Proofs.Ytagahikocoggcaa.gl
def badOk (st sc cd sn : Int) : Prop := cd ≠ 0 ∧ ((sc = 2 ∧ sn = 0) ∨ (sc = 1 ∧ sn = st))
theorem d_ok (st fl : Int) (l : List UInt8) : dSc fl l = 0 ∨ badOk st (dSc fl l) (dCd fl l) 0 := by
  unfold badOk dSc dCd
  repeat' split
  all_goals first | exact .inl rfl | exact .inr ⟨by decide, .inl ⟨rfl, rfl⟩⟩
theorem h_ok (fl st : Int) (l : List UInt8) : hSc fl st l = 0 ∨ badOk st (hSc fl st l) (hCd fl st l) (hSn fl st l) := by
  unfold badOk hSn hSc hCd
  repeat' split
  all_goals first | exact .inl rfl | exact .inr ⟨by decide, .inl ⟨rfl, rfl⟩⟩ | exact .inr ⟨by decide, .inr ⟨rfl, rfl⟩⟩ | simp_all
theorem p_ok (st : Int) (l : List UInt8) : pSc st l = 0 ∨ badOk st (pSc st l) (pCd st l) (pSn st l) := by
  unfold badOk pSn pSc pCd
  repeat' split
  all_goals first | exact .inl rfl | exact .inr ⟨by decide, .inl ⟨rfl, rfl⟩⟩ | exact .inr ⟨by decide, .inr ⟨rfl, rfl⟩⟩ | simp_all
theorem w_ok (st : Int) (l : List UInt8) : wSc st l = 0 ∨ badOk st (wSc st l) (wCd st l) (wSn st l) := by
  unfold badOk wSn wSc wCd
  repeat' split
  all_goals first | exact .inl rfl | exact .inr ⟨by decide, .inl ⟨rfl, rfl⟩⟩ | exact .inr ⟨by decide, .inr ⟨rfl, rfl⟩⟩ | simp_all
theorem e_ok (st : Int) (k : Nat) (l : List UInt8) : lenE k l 2 = 0 ∨ badOk st (lenE k l 2) (lenE k l 6) 0 := by
  unfold badOk lenE
  split
  · exact .inl rfl
  · exact .inr ⟨by decide, .inl ⟨rfl, rfl⟩⟩
theorem g_ok (st : Int) (k : Nat) (l : List UInt8) : lenG k l 2 = 0 ∨ badOk st (lenG k l 2) (lenG k l 6) 0 := by
  unfold badOk lenG
  split
  · exact .inl rfl
  · exact .inr ⟨by decide, .inl ⟨rfl, rfl⟩⟩
theorem s_ok (st fl : Int) (l : List UInt8) : stSc fl l = 0 ∨ badOk st (stSc fl l) (stCd fl l) 0 := by
  unfold badOk stSc stCd
  split
  · exact .inr ⟨by decide, .inl ⟨rfl, rfl⟩⟩
  · split
    · exact .inl rfl
    · rename_i h; exact .inr ⟨h, .inl ⟨rfl, rfl⟩⟩
theorem padR_le (fl : Int) (l : List UInt8) : (padR fl l).length ≤ l.length := by unfold padR; split <;> simp
theorem hRe_le (fl : Int) (l : List UInt8) : (hRe fl l).length ≤ l.length := by
  have := padR_le fl l
  unfold hRe; split
  · rw [List.length_drop]; omega
  · exact this
theorem dBo_le (fl : Int) (l : List UInt8) : (dBo fl l).length ≤ l.length := by
  have := padR_le fl l
  unfold dBo; split
  · rw [List.length_take]; omega
  · simp
theorem hBo_le (fl st : Int) (l : List UInt8) : (hBo fl st l).length ≤ l.length := by
  have := hRe_le fl l
  unfold hBo; split
  · rw [List.length_take]; omega
  · simp
theorem piBo_le (l : List UInt8) : (piBo l).length ≤ l.length := by unfold piBo; split <;> simp
theorem goBo_le (l : List UInt8) : (goBo l).length ≤ l.length := by unfold goBo; split <;> simp
def Says (ty st : Int) (n : Nat) (o : ShO) : Prop := o.sc = 0 ∧ o.cd = 0 ∧ o.sn = 0 ∧ o.y.ty = ty ∧ o.y.st = st ∧ o.b.length ≤ n ∧ o.y.cs ≤ (n : Nat)
def Errs (st : Int) (o : ShO) : Prop := ∃ sc cd sn, o = badO sc cd sn ∧ badOk st sc cd sn
theorem pick_ok {ty st a b c : Int} {n : Nat} {o : ShO} (h : a = 0 ∨ badOk st a b c) (ho : Says ty st n o) : Says ty st n (pickO a b c o) ∨ Errs st (pickO a b c o) := by
  unfold pickO
  by_cases h0 : a = 0
  · rw [if_pos h0]; exact .inl ho
  · rw [if_neg h0]
    rcases h with h | h
    · exact absurd h h0
    · exact .inr ⟨a, b, c, rfl, h⟩
theorem ty_ok (ty fl st : Int) (l : List UInt8) : Says ty st l.length (tyO ty fl st l) ∨ Errs st (tyO ty fl st l) := by
  unfold tyO
  split
  · exact pick_ok (d_ok _ _ _) ⟨rfl, rfl, rfl, rfl, rfl, dBo_le _ _, Int.le_refl _⟩
  split
  · exact pick_ok (h_ok _ _ _) ⟨rfl, rfl, rfl, rfl, rfl, hBo_le _ _ _, by show (0 : Int) ≤ _; omega⟩
  split
  · exact pick_ok (p_ok _ _) ⟨rfl, rfl, rfl, rfl, rfl, Nat.zero_le _, by show (0 : Int) ≤ _; omega⟩
  split
  · exact pick_ok (e_ok _ _ _) ⟨rfl, rfl, rfl, rfl, rfl, Nat.zero_le _, by show (0 : Int) ≤ _; omega⟩
  split
  · exact pick_ok (s_ok _ _ _) ⟨rfl, rfl, rfl, rfl, rfl, Nat.zero_le _, by show (0 : Int) ≤ _; omega⟩
  split
  · exact pick_ok (e_ok _ _ _) ⟨rfl, rfl, rfl, rfl, rfl, piBo_le _, by show (0 : Int) ≤ _; omega⟩
  split
  · exact pick_ok (g_ok _ _ _) ⟨rfl, rfl, rfl, rfl, rfl, goBo_le _, by show (0 : Int) ≤ _; omega⟩
  split
  · exact pick_ok (w_ok _ _) ⟨rfl, rfl, rfl, rfl, rfl, Nat.zero_le _, by show (0 : Int) ≤ _; omega⟩
  · exact .inl ⟨rfl, rfl, rfl, rfl, rfl, Nat.le_refl _, by show (0 : Int) ≤ _; omega⟩
theorem errs_sc1 (ty fl : Int) (l : List UInt8) (h : misB ty 0 = false) (sc cd sn : Int) (e : tyO ty fl 0 l = badO sc cd sn) : sc ≠ 1 := by
  have h8 : ty = 4 ∨ ty = 6 ∨ ty = 7 ∨ ty = 8 := by
    unfold misB ownT at h
    simp at h
    omega
  intro h1
  subst h1
  have e2 : (tyO ty fl 0 l).sc = 1 := by rw [e]; rfl
  rcases h8 with rfl | rfl | rfl | rfl
  · have : tyO 4 fl 0 l = pickO (stSc fl l) (stCd fl l) 0 (okO ⟨4, 0, false, false, bit fl 1, 0, 0, 0, 0⟩ [] (stSe fl l)) := rfl
    rw [this] at e2
    unfold pickO at e2; split at e2
    · simp [okO] at e2
    · simp only [badO] at e2
      unfold stSc at e2; repeat' split at e2
      all_goals simp at e2
  · have : tyO 6 fl 0 l = pickO (lenE 8 l 2) (lenE 8 l 6) 0 (okO ⟨6, 0, false, false, piAk false fl l, 0, 0, 0, 0⟩ (piBo l) []) := rfl
    rw [this] at e2
    unfold pickO at e2; split at e2
    · simp [okO] at e2
    · simp only [badO] at e2
      unfold lenE at e2; repeat' split at e2
      all_goals simp at e2
  · have : tyO 7 fl 0 l = pickO (lenG 8 l 2) (lenG 8 l 6) 0 (okO ⟨7, 0, false, false, false, goCo 0 l, goLa 0 l, 0, 0⟩ (goBo l) []) := rfl
    rw [this] at e2
    unfold pickO at e2; split at e2
    · simp [okO] at e2
    · simp only [badO] at e2
      unfold lenG at e2; repeat' split at e2
      all_goals simp at e2
  · have : tyO 8 fl 0 l = pickO (wSc 0 l) (wCd 0 l) (wSn 0 l) (okO ⟨8, 0, false, false, false, 0, 0, wMo 0 l, 0⟩ [] []) := rfl
    rw [this] at e2
    unfold pickO at e2; split at e2
    · simp [okO] at e2
    · simp only [badO] at e2
      unfold wSc at e2; repeat' split at e2
      all_goals simp_all
theorem sh_ok (ty fl st : Int) (l : List UInt8) : Says ty st l.length (shO ty fl st l) ∨ ∃ sc cd sn, shO ty fl st l = badO sc cd sn ∧ cd ≠ 0 ∧ ((sc = 2 ∧ sn = 0) ∨ (sc = 1 ∧ sn = st ∧ st ≠ 0)) := by
  unfold shO
  split
  · exact .inl ⟨rfl, rfl, rfl, rfl, rfl, Nat.zero_le _, by show (0 : Int) ≤ _; omega⟩
  · split
    · exact .inr ⟨2, 1, 0, rfl, by decide, .inl ⟨rfl, rfl⟩⟩
    · rename_i h1 h2
      rcases ty_ok ty fl st l with h | ⟨sc, cd, sn, e, h3, h4⟩
      · exact .inl h
      · refine .inr ⟨sc, cd, sn, e, h3, ?_⟩
        rcases h4 with h4 | ⟨h4, h5⟩
        · exact .inl h4
        · refine .inr ⟨h4, h5, ?_⟩
          intro h0
          subst h0
          exact errs_sc1 ty fl l (by simpa using h2) sc cd sn e h4
end Go.Proofs.Ytagahikocoggcaa.sh
