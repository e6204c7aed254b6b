/- Frames that are written one behind the other: the mathematics. -/
import Derived.Test.YtkeiogmapogpnaaSz9
import Derived.Test.YtkeiogmapogpnaaRows
import Derived.Test.YtkeiogmapogpnaaLfm
set_option linter.unusedSimpArgs false
set_option linter.unusedVariables false
namespace Go.Proofs.Ytkeiogmapogpnaa.fe
open Go Go.Ev Go.Sy Go.RowKit Go.Proofs.Ytkeiogmapogpnaa.s9 Go.Proofs.Ytkeiogmapogpnaa.fd Go.Proofs.Ytkeiogmapogpnaa.gl
def wire (a : Bf) : List UInt8 := headB a.p.length a.t a.f a.s ++ a.p
def wires (l : List Bf) : List UInt8 := l.flatMap wire
def Rt (a : Bf) : Prop := a.t < 256 ∧ a.f < 256 ∧ a.s < 2147483648 ∧ a.p.length ≤ 300
def ends : Nat → List Bf → List Int
  | _, [] => []
  | k, a :: l => ((k + (9 + a.p.length) : Nat) : Int) :: ends (k + (9 + a.p.length)) l
theorem wire_len (a : Bf) : (wire a).length = 9 + a.p.length := by unfold wire; rw [List.length_append]; rfl
theorem wires_cons (a : Bf) (l : List Bf) : wires (a :: l) = wire a ++ wires l := by simp [wires]
theorem wires_app (l m : List Bf) : wires (l ++ m) = wires l ++ wires m := by simp [wires]
theorem wires_sing (a : Bf) : wires [a] = wire a := by simp [wires]
theorem ends_len (l : List Bf) : ∀ k, (ends k l).length = l.length := by
  induction l with
  | nil => intro k; rfl
  | cons a l ih => intro k; simp [ends, ih]
theorem ends_snoc (a : Bf) (l : List Bf) : ∀ k, ends k (l ++ [a]) = ends k l ++ [((k + (wires l).length + (9 + a.p.length) : Nat) : Int)] := by
  induction l with
  | nil => intro k; simp [ends, wires]
  | cons b l ih =>
    intro k
    rw [List.cons_append, ends, ih, ends, wires_cons, List.length_append, wire_len, List.cons_append]
    congr 3
    omega
theorem ends_get (l : List Bf) : ∀ (k j : Nat), j < l.length → (ends k l).getD j 0 = ((k + (wires (l.take (j + 1))).length : Nat) : Int) := by
  induction l with
  | nil => intro k j h; simp at h
  | cons b l ih =>
    intro k j h
    rw [List.take_succ_cons, wires_cons, List.length_append, wire_len]
    cases j with
    | zero => simp [ends, wires]
    | succ j =>
      rw [ends, List.getD_cons_succ, ih _ _ (by simpa using h)]
      congr 1
      omega
theorem run_wires (m : Int) (hm : 300 ≤ m) : ∀ (l : List Bf), (∀ a ∈ l, Rt a) → ∀ (z : List UInt8) (n : Nat), (wires l ++ z).length ≤ n →
    run m n (wires l ++ z) = (l ++ (run m n z).1, (wires l).length + (run m n z).2.1, (run m n z).2.2) := by
  intro l
  induction l with
  | nil => intro _ z n _; simp [wires]
  | cons a l ih =>
    intro hl z n hn
    obtain ⟨r1, r2, r3, r4⟩ := hl a (List.mem_cons_self ..)
    rw [wires_cons] at hn ⊢
    have e : wire a ++ wires l ++ z = headB a.p.length a.t a.f a.s ++ (a.p ++ (wires l ++ z)) := by unfold wire; simp
    rw [e] at hn ⊢
    rw [run_one m n a.p (wires l ++ z) a.t a.f a.s r1 r2 r3 (by omega) (by omega) hn, ih (fun b hb => hl b (List.mem_cons_of_mem _ hb)) z n (by rw [List.length_append, List.length_append] at hn; omega)]
    simp only [List.length_append, wire_len, List.cons_append, Prod.mk.injEq, and_true, true_and]
    omega
theorem run_part (m : Int) (hm : 300 ≤ m) (a : Bf) (ha : Rt a) (z y : List UInt8) (hz : wire a = z ++ y) (hl : z.length < 9 + a.p.length) (n : Nat) (hn : z.length ≤ n) : run m n z = ([], 0, false) := by
  rw [run_step m hn]
  by_cases h9 : z.length < 9
  · rw [if_pos h9]
  · rw [if_neg h9]
    have hle : lenF z = a.p.length := by
      have e : lenF (z ++ y) = lenF z := by unfold lenF; rw [bt_app2 (by omega), bt_app2 (by omega), bt_app2 (by omega)]
      rw [← e, ← hz]
      obtain ⟨r1, r2, r3, r4⟩ := ha
      have := (fr_put a.p [] a.t a.f a.s r1 r2 r3 (by omega)).1
      rwa [List.append_nil] at this
    rw [hle, if_neg (by have := ha.2.2.2; omega), if_pos hl]
theorem run_cut (m : Int) (hm : 300 ≤ m) (l : List Bf) (hl : ∀ a ∈ l, Rt a) (k n : Nat) (hk : k ≤ (wires l).length) (hn : n ≤ l.length)
    (h1 : ∀ j < n, (ends 0 l).getD j 0 ≤ (k : Int)) (h2 : n < l.length → (k : Int) < (ends 0 l).getD n 0) (N : Nat) (hN : k ≤ N) :
    (wires (l.take n)).length ≤ k ∧ run m N ((wires l).take k) = (l.take n, (wires (l.take n)).length, false) := by
  have hw : (wires (l.take n)).length ≤ k := by
    cases n with
    | zero => simp [wires]
    | succ n =>
      have := h1 n (by omega)
      rw [ends_get l 0 n (by omega)] at this
      omega
  refine ⟨hw, ?_⟩
  have hs : wires l = wires (l.take n) ++ wires (l.drop n) := by rw [← wires_app, List.take_append_drop]
  have ht : (wires l).take k = wires (l.take n) ++ (wires (l.drop n)).take (k - (wires (l.take n)).length) := by
    rw [hs, List.take_append, List.take_of_length_le hw]
  have hlen : ((wires l).take k).length ≤ N := by rw [List.length_take]; omega
  rw [ht] at hlen ⊢
  rw [run_wires m hm _ (fun a ha => hl a (List.mem_of_mem_take ha)) _ N hlen]
  have hz : run m N ((wires (l.drop n)).take (k - (wires (l.take n)).length)) = ([], 0, false) := by
    by_cases hnl : n < l.length
    · have h3 := h2 hnl
      rw [ends_get l 0 n hnl, List.take_add_one, List.getElem?_eq_getElem hnl, wires_app, List.length_append] at h3
      simp only [Option.toList_some, wires_sing, wire_len] at h3
      rw [List.drop_eq_getElem_cons hnl, wires_cons, List.take_append_of_le_length (by rw [wire_len]; omega)]
      refine run_part m hm l[n] (hl _ (List.getElem_mem hnl)) _ ((wire l[n]).drop (k - (wires (l.take n)).length)) (List.take_append_drop _ _).symm ?_ N ?_
      · rw [List.length_take]; omega
      · rw [List.length_take]; omega
    · have : l.drop n = [] := List.drop_eq_nil_of_le (by omega)
      rw [this]
      simp only [wires, List.flatMap_nil, List.take_nil]
      exact run_nil m N
  rw [hz]; simp
theorem vw_toG (a : Bf) : vw (toG a) = ((a.t : Int), (a.f : Int), (a.s : Int), a.p) := by
  have hz : gCells (gCode (bCells a.p)) = bCells a.p := gCells_code (bCells_g _)
  unfold vw gB toG
  simp only
  rw [hz, List.drop_zero, List.take_of_length_le (by rw [bCells_len]; exact Nat.le_refl _), bCells_bOf]
end Go.Proofs.Ytkeiogmapogpnaa.fe
