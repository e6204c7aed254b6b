/- A number with quotes and without. -/
import Derived.Test.YtdbeebannnofpaaSz9
import Derived.Test.YtdbeebannnofpaaRows
import Derived.Test.YtdbeebannnofpaaLof16
set_option linter.unusedSimpArgs false
set_option linter.unusedVariables false
namespace Go.Proofs.Ytdbeebannnofpaa.tk
open Go Go.Ev Go.Sy Go.RowKit Go.Proofs.Ytdbeebannnofpaa.gl
def sGreat : List UInt8 := [77, 65, 88, 45, 65, 103, 101]
def quT (nm d : List UInt8) : List UInt8 := nm ++ 61 :: 34 :: (d ++ [34])
def puT (nm d : List UInt8) : List UInt8 := sPublic ++ [44, 32] ++ (eqT nm d ++ 32 :: 44 :: [120, 61, 49])
theorem spl_over (q : Bool) : ∀ (l cur r : List UInt8), (∀ c ∈ l, c ≠ 34 ∧ c ≠ 92 ∧ c ≠ 44) → spl q cur (l ++ r) = spl q (cur ++ l) r
  | [], cur, r, _ => by simp
  | c :: l, cur, r, h => by
    have h1 := h c (by simp)
    rw [List.cons_append, spl_o q cur (l ++ r) c h1.1 (by simp [h1.2.1]) (by simp [h1.2.2]), spl_over q l _ r (fun x hx => h x (by simp [hx]))]
    simp
theorem dg_no (n : Nat) : ∀ c ∈ dgL n, c ≠ 34 ∧ c ≠ 92 ∧ c ≠ 44 := fun c hc => by
  have h := dgL_in n c hc
  refine ⟨?_, ?_, ?_⟩ <;> (intro e; subst e; simp at h)
theorem unq_pl : ∀ d : List UInt8, (∀ c ∈ d, 48 ≤ c.toNat ∧ c.toNat ≤ 57) → unq d = some d
  | [], _ => rfl
  | c :: d, h => by
    have h1 := h c (by simp)
    have a : c ≠ 34 := by intro e; subst e; simp at h1
    have b : c ≠ 92 := by intro e; subst e; simp at h1
    have k : ctlN c.toNat = false := by unfold ctlN; simp; omega
    rw [unq_o c d a b, k, unq_pl d (fun x hx => h x (by simp [hx]))]
    simp
theorem split_qu (nm : List UInt8) (n : Nat) (h1 : ∀ c ∈ nm, c ≠ 34 ∧ c ≠ 92 ∧ c ≠ 44) (h2 : trimL (quT nm (dgL n)) = quT nm (dgL n)) : splitL (quT nm (dgL n)) = some [quT nm (dgL n)] := by
  have e : addEl (quT nm (dgL n)) = [quT nm (dgL n)] := by unfold addEl; rw [h2, if_neg (by unfold quT; simp)]
  rw [← e]
  unfold splitL
  rw [show quT nm (dgL n) = nm ++ (61 :: 34 :: (dgL n ++ [34])) from rfl, spl_over false nm _ _ h1, spl_o _ _ _ _ (by decide) (by simp) (by simp), spl_q _ _ _ _ rfl, spl_over _ _ _ _ (dg_no n), spl_q _ _ _ _ rfl, spl_nil]
  simp
theorem of_qu (nm : List UInt8) (n : Nat) (h1 : tokL nm = true) (h2 : (61 : UInt8) ∉ nm) : ofL (quT nm (dgL n)) = some ⟨lowerL nm, dgL n, true⟩ := by
  have t1 : tokL (quT nm (dgL n)) = false := by
    unfold tokL allTk quT
    have : tokN 61 = false := by decide
    simp [this]
  have t2 : (61 : UInt8) ∈ quT nm (dgL n) := by unfold quT; simp
  have hall : ∀ c ∈ nm, (c != 61) = true := fun c hc => by simp; intro e; exact h2 (e ▸ hc)
  have t3 : (quT nm (dgL n)).takeWhile (· != 61) = nm := by
    unfold quT
    rw [List.takeWhile_append_of_pos hall, List.takeWhile_cons_of_neg (by simp), List.append_nil]
  have t4 : (quT nm (dgL n)).dropWhile (· != 61) = 61 :: 34 :: (dgL n ++ [34]) := by
    unfold quT
    rw [List.dropWhile_append_of_pos hall, List.dropWhile_cons_of_neg (by simp)]
  have t5 : unqL (34 :: (dgL n ++ [34])) = some (dgL n) := by
    have : tokL (34 :: (dgL n ++ [34])) = false := by
      unfold tokL allTk
      have : tokN 34 = false := by decide
      simp [this]
    unfold unqL
    rw [if_neg (by simp [this]), if_neg (by simp)]
    simp [unq_pl _ (dgL_in n)]
  unfold ofL
  rw [if_neg (by simp [t1]), if_pos t2, t3, t4]
  simp [t5, h1]
theorem trim_ends (c d : UInt8) (l : List UInt8) (h1 : spC c = false) (h2 : spC d = false) : trimL (c :: (l ++ [d])) = c :: (l ++ [d]) := by
  unfold trimL trimF
  rw [List.dropWhile_cons_of_neg (by simp [h1])]
  unfold trimB
  rw [show (c :: (l ++ [d])).reverse = d :: (c :: l).reverse by simp, List.dropWhile_cons_of_neg (by simp [h2])]
  simp
theorem trim_sp (l : List UInt8) (h : l.all plainC = true) : trimL (l ++ [32]) = l := by
  cases l with
  | nil => rfl
  | cons c l =>
    have hc : spC c = false := by simp only [List.all_cons, Bool.and_eq_true] at h; have := h.1; simp [plainC] at this; exact this.2
    unfold trimL trimF
    rw [List.cons_append, List.dropWhile_cons_of_neg (by simp [hc])]
    unfold trimB
    rw [show (c :: (l ++ [32])).reverse = 32 :: (c :: l).reverse by simp, List.dropWhile_cons_of_pos (by decide), dropW_plain _ (by rw [List.all_reverse]; exact h), List.reverse_reverse]
theorem split_pu (nm : List UInt8) (n : Nat) (h0 : nm.all plainC = true) (h1 : ∀ c ∈ nm, c ≠ 34 ∧ c ≠ 92 ∧ c ≠ 44) : splitL (puT nm (dgL n)) = some [sPublic, eqT nm (dgL n), [120, 61, 49]] := by
  unfold puT
  rw [split_join _ _ [sPublic] (by decide)]
  have hp := eq_plain nm (dgL n) h0 (dg_all _ (dgL_in n)).1
  have hn : ∀ c ∈ eqT nm (dgL n), c ≠ 34 ∧ c ≠ 92 ∧ c ≠ 44 := fun c hc => by
    unfold eqT at hc
    rcases List.mem_append.1 hc with hc | hc
    · exact h1 c hc
    · rcases List.mem_cons.1 hc with hc | hc
      · subst hc; decide
      · exact dg_no n c hc
  have : splitL (eqT nm (dgL n) ++ 32 :: 44 :: [120, 61, 49]) = some [eqT nm (dgL n), [120, 61, 49]] := by
    unfold splitL
    rw [spl_over _ _ _ _ hn, spl_o _ _ _ _ (by decide) (by simp) (by simp), spl_c _ _ _ _ (by decide) (by simp) (by simp), List.nil_append]
    unfold addEl
    rw [trim_sp _ hp, if_neg (by unfold eqT; simp), show spl false [] [120, 61, 49] = some [[120, 61, 49]] from by decide]
    rfl
  rw [this]; rfl
def ctPm (x : Int) : Ct := ⟨false, false, false, true, false, false, x, -1, -1, -1⟩
theorem ct_one (p : List UInt8) (n : Nat) (hn : n ≤ 2147483647) (h : pairsL [⟨sCC, p⟩] sCC = [⟨sMaxAge, dgL n, true⟩]) : ctlL (ofF [p]) = ctMa n := by
  unfold ctlL
  rw [show ofF [p] = [⟨sCC, p⟩] from rfl, h]
  simp only [ctlP, List.foldl, stepC, flagC, numC, c0, smal, numN, secL_dg n hn]
  simp only [eq_false (show ¬ sMaxAge = sNoStore by decide), eq_false (show ¬ sMaxAge = sNoCache by decide), eq_false (show ¬ sMaxAge = sPrivate by decide), eq_false (show ¬ sMaxAge = sPublic by decide), eq_false (show ¬ sMaxAge = sMust by decide), eq_false (show ¬ sMaxAge = sProxy by decide), eq_false (show ¬ sMaxAge = sOnly by decide), eq_false (show ¬ sMaxAge = sShared by decide), eq_false (show ¬ sMaxAge = sMaxStale by decide), eq_false (show ¬ sMaxAge = sMinFresh by decide), decide_false, Bool.or_false, if_true, if_false]
  unfold ctMa
  congr 1
  omega
def xPr : Pr := ⟨[120], [49], true⟩
def puPr : Pr := ⟨sPublic, [], false⟩
theorem ct_three (p : List UInt8) (n : Nat) (hn : n ≤ 2147483647) (h : pairsL [⟨sCC, p⟩] sCC = [puPr, ⟨sMaxAge, dgL n, true⟩, xPr]) : ctlL (ofF [p]) = ctPm n := by
  unfold ctlL
  rw [show ofF [p] = [⟨sCC, p⟩] from rfl, h]
  have e1 : stepC c0 puPr = ⟨false, false, false, true, false, false, -1, -1, -1, -1⟩ := rfl
  have e3 : stepC (ctPm n) xPr = ctPm n := by
    simp only [stepC, flagC, numC, xPr, ctPm]
    simp only [eq_false (show ¬ ([120] : List UInt8) = sNoStore by decide), eq_false (show ¬ ([120] : List UInt8) = sNoCache by decide), eq_false (show ¬ ([120] : List UInt8) = sPrivate by decide), eq_false (show ¬ ([120] : List UInt8) = sPublic by decide), eq_false (show ¬ ([120] : List UInt8) = sMust by decide), eq_false (show ¬ ([120] : List UInt8) = sProxy by decide), eq_false (show ¬ ([120] : List UInt8) = sOnly by decide), eq_false (show ¬ ([120] : List UInt8) = sMaxAge by decide), eq_false (show ¬ ([120] : List UInt8) = sShared by decide), eq_false (show ¬ ([120] : List UInt8) = sMaxStale by decide), eq_false (show ¬ ([120] : List UInt8) = sMinFresh by decide), decide_false, Bool.or_false, if_false]
  have e2 : stepC ⟨false, false, false, true, false, false, -1, -1, -1, -1⟩ ⟨sMaxAge, dgL n, true⟩ = ctPm n := by
    simp only [stepC, flagC, numC, smal, numN, secL_dg n hn]
    simp only [eq_false (show ¬ sMaxAge = sNoStore by decide), eq_false (show ¬ sMaxAge = sNoCache by decide), eq_false (show ¬ sMaxAge = sPrivate by decide), eq_false (show ¬ sMaxAge = sPublic by decide), eq_false (show ¬ sMaxAge = sMust by decide), eq_false (show ¬ sMaxAge = sProxy by decide), eq_false (show ¬ sMaxAge = sOnly by decide), eq_false (show ¬ sMaxAge = sShared by decide), eq_false (show ¬ sMaxAge = sMaxStale by decide), eq_false (show ¬ sMaxAge = sMinFresh by decide), decide_false, Bool.or_false, if_true, if_false]
    unfold ctPm
    congr 1
    omega
  rw [ctlP, List.foldl, e1, List.foldl, e2, List.foldl, e3]; rfl
theorem q_a (nm : List UInt8) (n : Nat) (hn : n ≤ 2147483647) (h0 : nm.all plainC = true) (h1 : tokL nm = true) (h2 : (61 : UInt8) ∉ nm) (hl : lowerL nm = sMaxAge) : ctlL (ofF [eqT nm (dgL n)]) = ctMa n := by
  refine ct_one _ n hn ?_
  rw [pairs_eq _ _ h0 h1 h2 (dg_tok n) (dg_all _ (dgL_in n)).1, hl]
theorem q_b (nm : List UInt8) (n : Nat) (hn : n ≤ 2147483647) (h1 : tokL nm = true) (h2 : (61 : UInt8) ∉ nm) (h3 : ∀ c ∈ nm, c ≠ 34 ∧ c ≠ 92 ∧ c ≠ 44) (h4 : trimL (quT nm (dgL n)) = quT nm (dgL n)) (hl : lowerL nm = sMaxAge) : ctlL (ofF [quT nm (dgL n)]) = ctMa n := by
  refine ct_one _ n hn ?_
  unfold pairsL
  rw [all_one, split_qu nm n h3 h4]
  simp [of_qu nm n h1 h2, hl]
theorem q_c (nm : List UInt8) (n : Nat) (hn : n ≤ 2147483647) (h0 : nm.all plainC = true) (h1 : tokL nm = true) (h2 : (61 : UInt8) ∉ nm) (h3 : ∀ c ∈ nm, c ≠ 34 ∧ c ≠ 92 ∧ c ≠ 44) (hl : lowerL nm = sMaxAge) : ctlL (ofF [puT nm (dgL n)]) = ctPm n := by
  refine ct_three _ n hn ?_
  unfold pairsL
  rw [all_one, split_pu nm n h0 h3]
  have a : ofL sPublic = some puPr := by rfl
  have b : ofL [120, 61, 49] = some xPr := by rfl
  simp [of_eq nm (dgL n) h1 h2 (dg_tok n), a, b, hl]
theorem q_all (nm : List UInt8) (hnm : nm = sMaxAge ∨ nm = sGreat) (n : Nat) (hn : n ≤ 2147483647) : ctlL (ofF [eqT nm (dgL n)]) = ctMa n ∧ ctlL (ofF [quT nm (dgL n)]) = ctMa n ∧ ctlL (ofF [puT nm (dgL n)]) = ctPm n := by
  rcases hnm with rfl | rfl
  · refine ⟨q_a _ n hn (by decide) (by decide) (by decide) (by decide), q_b _ n hn (by decide) (by decide) (by decide) ?_ (by decide), q_c _ n hn (by decide) (by decide) (by decide) (by decide) (by decide)⟩
    exact trim_ends 109 34 ([97, 120, 45, 97, 103, 101] ++ 61 :: 34 :: dgL n) (by decide) (by decide) |> fun h => by simpa [quT, sMaxAge] using h
  · refine ⟨q_a _ n hn (by decide) (by decide) (by decide) (by decide), q_b _ n hn (by decide) (by decide) (by decide) ?_ (by decide), q_c _ n hn (by decide) (by decide) (by decide) (by decide) (by decide)⟩
    exact trim_ends 77 34 ([65, 88, 45, 65, 103, 101] ++ 61 :: 34 :: dgL n) (by decide) (by decide) |> fun h => by simpa [quT, sGreat] using h
end Go.Proofs.Ytdbeebannnofpaa.tk
