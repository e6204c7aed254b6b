/- Lists of fields put together: what is said by both. -/
import Derived.Test.YtajfdcijpchjdaaSz9
import Derived.Test.YtajfdcijpchjdaaRows
import Derived.Test.YtajfdcijpchjdaaLlgt
set_option maxRecDepth 20000
set_option linter.unusedSimpArgs false
set_option linter.unusedVariables false
namespace Go.Proofs.Ytajfdcijpchjdaa.tk
open Go Go.Ev Go.Sy Go.RowKit Go.Proofs.Ytajfdcijpchjdaa.gl
def tlS (nm : List UInt8) : List Fl → List UInt8
  | [] => []
  | f :: l => if f.n = nm then [44, 32] ++ f.v ++ tlS nm l else tlS nm l
def okF (nm : List UInt8) (l : List Fl) : Bool := okSp (allL l nm)
theorem allS_tl (nm : List UInt8) : ∀ (l : List Fl) (acc : List UInt8) (k : Nat), 0 < k → allS nm l acc k = acc ++ tlS nm l
  | [], acc, k, _ => by simp [allS, tlS]
  | f :: l, acc, k, h => by
    rw [allS, tlS]
    split
    · rw [allS_tl nm l _ (k + 1) (by omega), if_neg (by omega)]; simp
    · exact allS_tl nm l acc k h
theorem tl_app (nm : List UInt8) (b : List Fl) : ∀ a : List Fl, tlS nm (a ++ b) = tlS nm a ++ tlS nm b
  | [] => rfl
  | f :: a => by
    rw [List.cons_append, tlS, tlS, tl_app nm b a]
    split <;> simp
theorem all_tl (nm : List UInt8) : ∀ l : List Fl, allL l nm = (tlS nm l).drop 2
  | [] => rfl
  | f :: l => by
    unfold allL
    rw [allS, tlS]
    split
    · rw [allS_tl nm l _ 1 (by omega)]; simp
    · exact all_tl nm l
theorem tl_none (nm : List UInt8) : ∀ l : List Fl, allN nm l = 0 → tlS nm l = []
  | [], _ => rfl
  | f :: l, h => by
    rw [allN_cons] at h
    rw [tlS]
    split at h
    · omega
    · rename_i h2; rw [if_neg h2]; exact tl_none nm l h
theorem tl_some (nm : List UInt8) : ∀ l : List Fl, allN nm l ≠ 0 → tlS nm l = [44, 32] ++ allL l nm
  | [], h => absurd rfl h
  | f :: l, h => by
    rw [allN_cons] at h
    rw [all_tl, tlS]
    split at h
    · rename_i h2; rw [if_pos h2]; simp
    · rename_i h2
      rw [if_neg h2, tl_some nm l h]; simp
theorem allN_app (nm : List UInt8) (a b : List Fl) : allN nm (a ++ b) = allN nm a + allN nm b := by
  unfold allN; rw [List.filter_append, List.length_append]
theorem all_none (nm : List UInt8) (l : List Fl) (h : allN nm l = 0) : allL l nm = [] := by rw [all_tl, tl_none nm l h]; rfl
theorem all_app (nm : List UInt8) (a b : List Fl) : allL (a ++ b) nm = if allN nm a = 0 then allL b nm else if allN nm b = 0 then allL a nm else allL a nm ++ [44, 32] ++ allL b nm := by
  rw [all_tl, tl_app]
  split
  · rename_i h; rw [tl_none nm a h, List.nil_append, all_tl]
  · rename_i h
    rw [tl_some nm a h]
    split
    · rename_i h2; rw [tl_none nm b h2]; simp
    · rename_i h2; rw [tl_some nm b h2]; simp
theorem trimF_32 (e : List UInt8) : trimF (32 :: e) = trimF e := by unfold trimF; rw [List.dropWhile_cons_of_pos (by decide)]
theorem addEl_32 (e : List UInt8) : addEl (32 :: e) = addEl e := by unfold addEl trimL; rw [trimF_32]
theorem spl_32 : ∀ (n : Nat) (q : Bool) (cur l : List UInt8), l.length ≤ n → spl q (32 :: cur) l = spl q cur l := by
  intro n
  induction n with
  | zero =>
    intro q cur l hl
    have : l = [] := List.eq_nil_of_length_eq_zero (by omega)
    subst this; rw [spl_nil, spl_nil, addEl_32]
  | succ n ih =>
    intro q cur l hl
    cases l with
    | nil => rw [spl_nil, spl_nil, addEl_32]
    | cons c l =>
      simp only [List.length_cons] at hl
      by_cases h1 : c = 34
      · rw [spl_q _ _ _ _ h1, spl_q _ _ _ _ h1]; exact ih _ _ _ (by omega)
      · by_cases h2 : q = true ∧ c = 92
        · cases l with
          | nil => rw [spl_b0 _ _ _ h1 h2, spl_b0 _ _ _ h1 h2]
          | cons d l => rw [spl_b _ _ _ _ _ h1 h2, spl_b _ _ _ _ _ h1 h2]; simp only [List.length_cons] at hl; exact ih _ _ _ (by omega)
        · by_cases h3 : q = false ∧ c = 44
          · rw [spl_c _ _ _ _ h1 h2 h3, spl_c _ _ _ _ h1 h2 h3, addEl_32]
          · rw [spl_o _ _ _ _ h1 h2 h3, spl_o _ _ _ _ h1 h2 h3]; exact ih _ _ _ (by omega)
theorem split_32 (l : List UInt8) : splitL (32 :: l) = splitL l := by
  unfold splitL
  rw [spl_o _ _ _ _ (by decide) (by simp) (by simp)]
  exact spl_32 l.length false [] l (Nat.le_refl _)
theorem spl_join (y : List UInt8) : ∀ (n : Nat) (q : Bool) (cur x : List UInt8) (r : List (List UInt8)), x.length ≤ n → spl q cur x = some r → spl q cur (x ++ 44 :: y) = (spl false [] y).map fun l => r ++ l := by
  intro n
  have base : ∀ (q : Bool) (cur : List UInt8) (r : List (List UInt8)), spl q cur [] = some r → spl q cur ([] ++ 44 :: y) = (spl false [] y).map fun l => r ++ l := by
    intro q cur r h
    rw [spl_nil] at h
    cases q with
    | true => simp at h
    | false =>
      simp at h; subst h
      rw [List.nil_append, spl_c _ _ _ _ (by decide) (by simp) ⟨rfl, rfl⟩]
  induction n with
  | zero =>
    intro q cur x r hl h
    have : x = [] := List.eq_nil_of_length_eq_zero (by omega)
    subst this; exact base q cur r h
  | succ n ih =>
    intro q cur x r hl h
    cases x with
    | nil => exact base q cur r h
    | cons c x =>
      simp only [List.length_cons] at hl
      rw [List.cons_append]
      by_cases h1 : c = 34
      · rw [spl_q _ _ _ _ h1] at h ⊢; exact ih _ _ _ _ (by omega) h
      · by_cases h2 : q = true ∧ c = 92
        · cases x with
          | nil => rw [spl_b0 _ _ _ h1 h2] at h; simp at h
          | cons d x => rw [List.cons_append]; rw [spl_b _ _ _ _ _ h1 h2] at h ⊢; simp only [List.length_cons] at hl; exact ih _ _ _ _ (by omega) h
        · by_cases h3 : q = false ∧ c = 44
          · rw [spl_c _ _ _ _ h1 h2 h3] at h ⊢
            rw [Option.map_eq_some_iff] at h
            obtain ⟨r', h4, rfl⟩ := h
            rw [ih _ _ _ _ (by omega) h4, Option.map_map]
            congr 1; funext l; simp
          · rw [spl_o _ _ _ _ h1 h2 h3] at h ⊢; exact ih _ _ _ _ (by omega) h
theorem split_join (x y : List UInt8) (r : List (List UInt8)) (h : splitL x = some r) : splitL (x ++ [44, 32] ++ y) = (splitL y).map fun l => r ++ l := by
  have := spl_join (32 :: y) x.length false [] x r (Nat.le_refl _) h
  rw [show x ++ [44, 32] ++ y = x ++ 44 :: 32 :: y by simp]
  unfold splitL at *
  rw [this]
  have h2 := split_32 y
  unfold splitL at h2
  rw [h2]
theorem ok_some {l : List UInt8} (h : okSp l = true) : splitL l = some (elSp l) := by
  unfold okSp at h; unfold elSp
  cases hs : splitL l with
  | none => rw [hs] at h; simp at h
  | some r => rfl
theorem split_nil : splitL [] = some [] := by unfold splitL; rw [spl_nil]; simp [addEl, trimL, trimB, trimF]
theorem split_app (nm : List UInt8) (a b : List Fl) (ha : okF nm a = true) : splitL (allL (a ++ b) nm) = (splitL (allL b nm)).map fun l => elSp (allL a nm) ++ l := by
  have h1 := ok_some ha
  rw [all_app]
  split
  · rename_i h; rw [all_none nm a h]
    have : elSp [] = [] := by unfold elSp; rw [split_nil]; rfl
    rw [this]; cases splitL (allL b nm) <;> simp
  · split
    · rename_i h; rw [all_none nm b h, split_nil, h1]; simp
    · exact split_join _ _ _ h1
theorem el_app (nm : List UInt8) (a b : List Fl) (ha : okF nm a = true) (hb : okF nm b = true) : elSp (allL (a ++ b) nm) = elSp (allL a nm) ++ elSp (allL b nm) := by
  have h2 := ok_some hb
  conv => lhs; unfold elSp
  rw [split_app nm a b ha, h2]; rfl
theorem pairs_app (nm : List UInt8) (a b : List Fl) (ha : okF nm a = true) (hb : okF nm b = true) : pairsL (a ++ b) nm = pairsL a nm ++ pairsL b nm := by
  rw [pairs_el, pairs_el, pairs_el, el_app nm a b ha hb, List.filterMap_append]
end Go.Proofs.Ytajfdcijpchjdaa.tk
