/- What is said with a number. -/
import Derived.Test.YtideeogedleabaaSz9
import Derived.Test.YtideeogedleabaaRows
import Derived.Test.YtideeogedleabaaLdg19
import Derived.Test.YtideeogedleabaaLctlj
set_option maxRecDepth 20000
set_option linter.unusedSimpArgs false
set_option linter.unusedVariables false
namespace Go.Proofs.Ytideeogedleabaa.tk
open Go Go.Ev Go.Sy Go.RowKit Go.Proofs.Ytideeogedleabaa.gl
def eqT (nm d : List UInt8) : List UInt8 := nm ++ 61 :: d
def plainC (c : UInt8) : Bool := decide (c ≠ 34) && decide (c ≠ 44) && !spC c
theorem spl_plain : ∀ (l cur : List UInt8), (l.all plainC) = true → spl false cur l = some (addEl (cur ++ l))
  | [], cur, _ => by simp [spl]
  | c :: l, cur, h => by
    simp only [List.all_cons, Bool.and_eq_true] at h
    obtain ⟨h1, h2⟩ := h
    simp [plainC] at h1
    rw [spl_o false cur l c h1.1.1 (by simp) (by simp [h1.1.2]), spl_plain l _ h2]
    simp
theorem dropW_plain (l : List UInt8) (h : l.all plainC = true) : l.dropWhile spC = l := by
  cases l with
  | nil => rfl
  | cons c l =>
    simp only [List.all_cons, Bool.and_eq_true] at h
    have := h.1
    simp [plainC] at this
    rw [List.dropWhile_cons_of_neg (by simp [this.2])]
theorem trim_plain (l : List UInt8) (h : l.all plainC = true) : trimL l = l := by
  unfold trimL trimB trimF
  rw [dropW_plain l h, dropW_plain l.reverse (by rw [List.all_reverse]; exact h), List.reverse_reverse]
theorem dg_facts (n : Nat) (h1 : 48 ≤ n) (h2 : n ≤ 57) : tokN n = true ∧ spN n = false := by
  constructor
  · unfold tokN; rw [decide_eq_true (by omega)]; rfl
  · unfold spN; simp; omega
theorem dg_all (d : List UInt8) (h : ∀ c ∈ d, 48 ≤ c.toNat ∧ c.toNat ≤ 57) : d.all plainC = true ∧ allTk d = true := by
  have hf := fun c hc => dg_facts c.toNat (h c hc).1 (h c hc).2
  constructor
  · rw [List.all_eq_true]
    intro c hc
    have a := h c hc
    have n1 : c ≠ 34 := fun e => by subst e; simp at a
    have n2 : c ≠ 44 := fun e => by subst e; simp at a
    simp [plainC, n1, n2, spC, (hf c hc).2]
  · unfold allTk; rw [List.all_eq_true]
    intro c hc; exact (hf c hc).1
theorem split_plain (l : List UInt8) (h : l.all plainC = true) (hn : l ≠ []) : splitL l = some [l] := by
  unfold splitL
  rw [spl_plain l [] h, List.nil_append]
  unfold addEl
  rw [trim_plain l h, if_neg hn]
theorem of_eq (nm d : List UInt8) (h1 : tokL nm = true) (h2 : (61 : UInt8) ∉ nm) (h3 : tokL d = true) : ofL (eqT nm d) = some ⟨lowerL nm, d, true⟩ := by
  have t1 : tokL (eqT nm d) = false := by
    unfold tokL allTk eqT
    have : tokN 61 = false := by decide
    simp [this]
  have t2 : (61 : UInt8) ∈ eqT nm d := by unfold eqT; simp
  have hall : ∀ c ∈ nm, (c != 61) = true := fun c hc => by simp; intro e; exact h2 (e ▸ hc)
  have t3 : (eqT nm d).takeWhile (· != 61) = nm := by
    unfold eqT
    rw [List.takeWhile_append_of_pos hall, List.takeWhile_cons_of_neg (by simp), List.append_nil]
  have t4 : (eqT nm d).dropWhile (· != 61) = 61 :: d := by
    unfold eqT
    rw [List.dropWhile_append_of_pos hall, List.dropWhile_cons_of_neg (by simp)]
  unfold ofL
  rw [if_neg (by simp [t1]), if_pos t2, t3, t4]
  simp [unqL, h3, h1]
theorem all_one (nm v : List UInt8) : allL [⟨nm, v⟩] nm = v := by simp [allL, allS]
theorem eq_plain (nm d : List UInt8) (h1 : nm.all plainC = true) (h2 : d.all plainC = true) : (eqT nm d).all plainC = true := by
  unfold eqT; rw [List.all_append, List.all_cons, h1, h2]; decide
theorem pairs_eq (nm d : List UInt8) (h0 : nm.all plainC = true) (h1 : tokL nm = true) (h2 : (61 : UInt8) ∉ nm) (h3 : tokL d = true) (h4 : d.all plainC = true) : pairsL [⟨sCC, eqT nm d⟩] sCC = [⟨lowerL nm, d, true⟩] := by
  unfold pairsL
  rw [all_one, split_plain _ (eq_plain nm d h0 h4) (by unfold eqT; simp)]
  simp [of_eq nm d h1 h2 h3]
theorem dg_tok (n : Nat) : tokL (dgL n) = true := by
  unfold tokL
  rw [(dg_all _ (dgL_in n)).2]
  cases h : dgL n with
  | nil => exact absurd h (dgL_ne n)
  | cons => rfl
def ctMa (x : Int) : Ct := ⟨false, false, false, false, false, false, x, -1, -1, -1⟩
theorem ct_ma (n : Nat) (hn : n ≤ 2147483647) : ctlL [⟨sCC, eqT sMaxAge (dgL n)⟩] = ctMa n := by
  unfold ctlL
  rw [pairs_eq _ _ (by decide) (by decide) (by decide) (dg_tok n) (dg_all _ (dgL_in n)).1, show lowerL sMaxAge = sMaxAge by decide]
  simp only [ctlP, List.foldl, stepC, flagC, numC, c0, smal, numN, secL_dg n hn]
  simp only [eq_false (show ¬ sMaxAge = sNoStore by decide), eq_false (show ¬ sMaxAge = sNoCache by decide), eq_false (show ¬ sMaxAge = sPrivate by decide), eq_false (show ¬ sMaxAge = sPublic by decide), eq_false (show ¬ sMaxAge = sMust by decide), eq_false (show ¬ sMaxAge = sProxy by decide), eq_false (show ¬ sMaxAge = sOnly by decide), eq_false (show ¬ sMaxAge = sShared by decide), eq_false (show ¬ sMaxAge = sMaxStale by decide), eq_false (show ¬ sMaxAge = sMinFresh by decide), decide_false, Bool.or_false, if_true, if_false]
  unfold ctMa
  congr 1
  omega
end Go.Proofs.Ytideeogedleabaa.tk
