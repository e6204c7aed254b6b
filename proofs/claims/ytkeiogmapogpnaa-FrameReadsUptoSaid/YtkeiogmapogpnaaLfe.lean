/- A reader of frames, fed. -/
import Derived.Test.YtkeiogmapogpnaaSz9
import Derived.Test.YtkeiogmapogpnaaRows
import Derived.Test.YtkeiogmapogpnaaLfd
import Derived.Test.YtkeiogmapogpnaaLgl
set_option linter.unusedSimpArgs false
set_option linter.unusedVariables false
namespace Go.Proofs.Ytkeiogmapogpnaa.fe
open Go Go.Ev Go.Sy Go.RowKit Go.Proofs.Ytkeiogmapogpnaa.s9 Go.Proofs.Ytkeiogmapogpnaa.fd Go.Proofs.Ytkeiogmapogpnaa.gl
structure Bf where
  t : Nat
  f : Nat
  s : Nat
  p : List UInt8
noncomputable def enG (a : Bf) : List Value := [.int .i64 a.t, .int .i64 a.f, .int .i64 a.s, .slice (some ⟨gCode (bCells a.p), 0, some 0⟩) a.p.length 1]
def fr1 (x : List UInt8) : Bf := ⟨bt x 3, bt x 4, strF x, (x.take (9 + lenF x)).drop 9⟩
def run (m : Int) : Nat → List UInt8 → List Bf × Nat × Bool
  | 0, _ => ([], 0, false)
  | n + 1, x => if x.length < 9 then ([], 0, false) else if (lenF x : Int) > m then ([], 0, true) else if x.length < 9 + lenF x then ([], 0, false) else
    (fr1 x :: (run m n (x.drop (9 + lenF x))).1, 9 + lenF x + (run m n (x.drop (9 + lenF x))).2.1, (run m n (x.drop (9 + lenF x))).2.2)
def rdB (m : Int) : Row := ⟨[.slice none 0 0, .int .i64 m, .string ⟨#[]⟩, .int .i64 2, .int .i64 6, .int .i64 0], false, .cells false⟩
def badR (a b c : Int) : Row := ⟨[.int .i64 a, .int .i64 b, .int .i64 c], false, .cells false⟩
def badV (a b c : Int) : Value := .agg ⟨[.int .i64 a, .int .i64 b, .int .i64 c]⟩
def slc4 (r n : Nat) : Value := .slice (some ⟨r, 0, none⟩) n 4
def pE : List Nat := [0, 0, 1, 1, 1, 1, 1]
structure Ge where
  x : List UInt8
  m : Int
  k : Nat
abbrev Se := List Bf × Nat
noncomputable def slE (l : List Bf) : List (Nat × Value) := [(0, .pointer (some ⟨0, 0, none⟩)), (5, .pointer (some ⟨3, 0, none⟩)), (6, slc4 5 l.length)]
noncomputable def tF : List EntM := [eDec]
noncomputable abbrev EtF : Env := envT Try.prog tF
theorem run_fuel (m : Int) : ∀ (n : Nat) (x : List UInt8), x.length ≤ n → ∀ n', x.length ≤ n' → run m n x = run m n' x := by
  intro n
  induction n with
  | zero =>
    intro x hx n' _
    have : x = [] := List.eq_nil_of_length_eq_zero (by omega)
    subst this
    cases n' <;> simp [run]
  | succ n ih =>
    intro x hx n' hx'
    cases n' with
    | zero =>
      have : x = [] := List.eq_nil_of_length_eq_zero (by omega)
      subst this; simp [run]
    | succ n' =>
      simp only [run]
      by_cases h9 : x.length < 9
      · rw [if_pos h9, if_pos h9]
      · have := ih (x.drop (9 + lenF x)) (by rw [List.length_drop]; omega) n' (by rw [List.length_drop]; omega)
        rw [this]
theorem run_step (m : Int) {n : Nat} {x : List UInt8} (hx : x.length ≤ n) : run m n x = if x.length < 9 then ([], 0, false) else if (lenF x : Int) > m then ([], 0, true) else if x.length < 9 + lenF x then ([], 0, false) else
    (fr1 x :: (run m n (x.drop (9 + lenF x))).1, 9 + lenF x + (run m n (x.drop (9 + lenF x))).2.1, (run m n (x.drop (9 + lenF x))).2.2) := by
  rw [run_fuel m n x hx (n + 1) (by omega)]
  rfl
theorem bt_drop (x : List UInt8) (k i : Nat) : bt (x.drop k) i = bt x (k + i) := by
  unfold bt; rw [List.getD_eq_getElem?_getD, List.getElem?_drop, ← List.getD_eq_getElem?_getD]
theorem bt_take {x : List UInt8} {k i : Nat} (h : i < k) : bt (x.take k) i = bt x i := by
  unfold bt; rw [List.getD_eq_getElem?_getD, List.getElem?_take, if_pos h, ← List.getD_eq_getElem?_getD]
theorem enG_k (a : Bf) : (enG a).length = 4 := rfl
theorem enG_pl (l : List Bf) : Plain (gC enG l) := gC_plain (fun a v hv => by
  unfold enG at hv
  simp only [List.mem_cons, List.mem_nil_iff, or_false] at hv
  rcases hv with rfl | rfl | rfl | rfl <;> rfl) l
theorem bCells_g (l : List UInt8) : gAll (bCells l) = true := by
  unfold gAll; rw [List.all_eq_true]; intro v hv
  obtain ⟨b, _, rfl⟩ := List.mem_map.1 hv; rfl
def InvE (g : Ge) (s : Se) : Prop := s.2 ≤ g.x.length ∧ g.k ≤ s.2 ∧ s.1.length ≤ s.2 ∧ run g.m g.x.length (g.x.drop g.k) = (s.1 ++ (run g.m g.x.length (g.x.drop s.2)).1, (s.2 - g.k) + (run g.m g.x.length (g.x.drop s.2)).2.1, (run g.m g.x.length (g.x.drop s.2)).2.2)
theorem len_lt (x : List UInt8) : lenF x < 16777216 := by have := bt_lt x 0; have := bt_lt x 1; have := bt_lt x 2; unfold lenF; omega
theorem tF_ok : ∀ x ∈ tF, EntOk Try.prog x := all_cons eDec_ok (all_nil)
end Go.Proofs.Ytkeiogmapogpnaa.fe
