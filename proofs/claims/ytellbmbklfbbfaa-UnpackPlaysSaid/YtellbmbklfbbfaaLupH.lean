/- A block, read: what holds of it. -/
import Derived.Test.YtellbmbklfbbfaaSz9
import Derived.Test.YtellbmbklfbbfaaRows
import Derived.Test.YtellbmbklfbbfaaLupG
set_option maxRecDepth 20000
set_option linter.unusedSimpArgs false
set_option linter.unusedVariables false
namespace Go.Proofs.Ytellbmbklfbbfaa.up
open Go Go.Ev Go.Sy Go.RowKit Go.Proofs.Ytellbmbklfbbfaa.gl Go.Proofs.Ytellbmbklfbbfaa.tk Go.Proofs.Ytellbmbklfbbfaa.hf Go.Proofs.Ytellbmbklfbbfaa.s3 Go.Proofs.Ytellbmbklfbbfaa.tb
def wsum (l : List Wr) : Nat := (l.map fun w => fbN w.f).sum
def TI (x : Cx) (t : Tb) : Prop := Ok t ∧ t.most ≤ x.top
def RW (s : St) : Prop := s.sum = (wsum s.W : Nat) ∧ ∀ w ∈ s.W, 1 ≤ w.h ∧ w.h ≤ 3
theorem wsum_app (l : List Wr) (w : Wr) : wsum (l ++ [w]) = wsum l + fbN w.f := by unfold wsum; simp
theorem row_t (x : Cx) (s : St) (f : Fl) (h : Int) : (rowO x s f h).s.t = s.t := rfl
theorem row_rw (x : Cx) (s : St) (f : Fl) (h : Int) (r : RW s) (h1 : 1 ≤ h) (h3 : h ≤ 3) (he : (rowO x s f h).e = 0) : RW (rowO x s f h).s := by
  unfold rowO at he ⊢
  simp only at he ⊢
  by_cases g : x.list < roS s.sum f
  · rw [if_pos g] at he; simp at he
  · obtain ⟨r1, r2⟩ := r
    have e : roW x.list s.sum s.W f h = s.W ++ [⟨f, h⟩] := if_neg g
    refine ⟨?_, ?_⟩
    · simp only [e, wsum_app]; unfold roS; omega
    · simp only [e]
      intro w hw
      rcases List.mem_append.1 hw with hw | hw
      · exact r2 w hw
      · rw [List.mem_singleton] at hw; subst hw; exact ⟨h1, h3⟩
theorem step_tb (x : Cx) (s : St) (h : TI x s.t) : TI x (step x s).s.t := by
  have lit : ∀ hh, TI x (stLi x s hh).s.t := fun hh => by
    unfold stLi; split
    · exact h
    · exact h
  unfold step
  split
  · unfold stIx; split
    · exact h
    · split
      · exact h
      · exact h
  split
  · unfold stAd; split
    · exact h
    · exact ⟨ok_ad _ _ h.1, by rw [row_t]; simp only; rw [addT_m]; exact h.2⟩
  split
  · unfold stSi
    simp only
    unfold siT
    split
    · rename_i g
      unfold siR at g
      split at g
      · rename_i g1; exact absurd g g1
      · split at g
        · rename_i g2
          refine ⟨ok_rs _ _ h.1, ?_⟩
          rw [rsT_m]
          have := h.2
          split <;> omega
        · simp at g
    · exact h
  split
  · exact lit _
  · exact lit _
theorem step_rw (x : Cx) (s : St) (r : RW s) (he : (step x s).e = 0) : RW (step x s).s := by
  have lit : ∀ hh : Int, 1 ≤ hh → hh ≤ 3 → (stLi x s hh).e = 0 → RW (stLi x s hh).s := fun hh a b he => by
    unfold stLi at he ⊢
    split at he
    · rename_i g; exact absurd he g
    · rename_i g
      rw [if_neg g]
      exact row_rw x ⟨(liR s.t.l x.b s.i 4).p, s.W, s.sum, s.sz, s.t⟩ _ _ r a b he
  unfold step at he ⊢
  split at he
  · rename_i g
    rw [if_pos g]
    unfold stIx at he ⊢
    split at he
    · rename_i g; exact absurd he g
    rename_i g1
    rw [if_neg g1]
    split at he
    · simp at he
    · rename_i g2
      rw [if_neg g2]
      exact row_rw x ⟨(nuR x.b s.i 7).p, s.W, s.sum, s.sz, s.t⟩ _ _ r (by omega) (by omega) he
  rename_i c1
  rw [if_neg c1]
  split at he
  · rename_i g
    rw [if_pos g]
    unfold stAd at he ⊢
    split at he
    · rename_i g; exact absurd he g
    · rename_i g
      rw [if_neg g]
      exact row_rw x ⟨(liR s.t.l x.b s.i 6).p, s.W, s.sum, s.sz, addT s.t (liR s.t.l x.b s.i 6).v⟩ _ _ r (by omega) (by omega) he
  rename_i c2
  rw [if_neg c2]
  split at he
  · rename_i g
    rw [if_pos g]
    exact r
  rename_i c3
  rw [if_neg c3]
  split at he
  · rename_i g
    rw [if_pos g]
    exact lit _ (by omega) (by omega) he
  · rename_i g
    rw [if_neg g]
    exact lit _ (by omega) (by omega) he
theorem run_iv (x : Cx) : ∀ (k : Nat) (s : St), IV x s → RW s → TI x (runO x k s).s.t ∧ ((runO x k s).e = 0 → IV x (runO x k s).s ∧ RW (runO x k s).s)
  | 0, s, h, r => ⟨h.2.1, fun _ => ⟨h, r⟩⟩
  | k + 1, s, h, r => by
    unfold runO
    split
    · exact ⟨h.2.1, fun _ => ⟨h, r⟩⟩
    · split
      · rename_i g
        exact ⟨step_tb x s h.2.1, fun e => absurd e g⟩
      · rename_i g
        have g : (step x s).e = 0 := by omega
        exact run_iv x k _ (step_iv x s h g).1 (step_rw x s r g)
theorem up_iv (x : Cx) (bad : Bool) (t : Tb) (h : TI x t) (hl : 0 ≤ x.list) : TI x (upT x bad t) ∧ ((wsum (upW x bad t) : Int) ≤ x.list ∧ (upW x bad t).length ≤ x.b.length) ∧ (∀ w ∈ upW x bad t, 1 ≤ w.h ∧ w.h ≤ 3) ∧ (upE x bad t ≠ 0 → upW x bad t = []) ∧ (bad = true → upE x bad t = 1) ∧ upB x bad t = (bad || decide (upE x bad t ≠ 0)) := by
  have nil : TI x t ∧ ((wsum [] : Int) ≤ x.list ∧ ([] : List Wr).length ≤ x.b.length) ∧ (∀ w ∈ ([] : List Wr), 1 ≤ w.h ∧ w.h ≤ 3) := ⟨h, ⟨hl, Nat.zero_le _⟩, fun w hw => by simp at hw⟩
  cases bad with
  | true => exact ⟨nil.1, nil.2.1, nil.2.2, fun _ => rfl, fun _ => rfl, rfl⟩
  | false =>
    obtain ⟨a1, a2⟩ := run_iv x x.b.length (st0 t) ⟨Nat.zero_le _, h, Int.le_refl _, hl, Int.le_refl _, by show (0 : Int) ≤ 2; omega, Nat.le_refl _⟩ ⟨rfl, fun w hw => by simp [st0] at hw⟩
    by_cases he : (blO x t).e = 0
    · have eW : upW x false t = (blO x t).s.W := by unfold upW; simp [he]
      obtain ⟨⟨b1, _, _, b4, _, _, b7⟩, b8, b9⟩ := a2 he
      rw [eW]
      refine ⟨a1, ⟨by show ((wsum (runO x x.b.length (st0 t)).s.W : Nat) : Int) ≤ _; omega, by show (runO x x.b.length (st0 t)).s.W.length ≤ _; omega⟩, b9, fun q => absurd he q, fun q => by simp at q, ?_⟩
      unfold upB upE; simp [isOk, he]
    · have eW : upW x false t = [] := by unfold upW; simp [he]
      rw [eW]
      refine ⟨a1, nil.2.1, nil.2.2, fun _ => rfl, fun q => by simp at q, ?_⟩
      unfold upB upE; simp [isOk, he]
end Go.Proofs.Ytellbmbklfbbfaa.up
