/- The least of windows. -/
import Derived.Test.YtgjhlmelbgikdaaSz9
import Derived.Test.YtgjhlmelbgikdaaRows
import Derived.Test.YtgjhlmelbgikdaaLwinbound
import Derived.Test.YtgjhlmelbgikdaaLints
set_option linter.unusedSimpArgs false
set_option linter.unusedVariables false
namespace Go.Proofs.Ytgjhlmelbgikdaa.wn
open Go Go.Ev Go.Sy Go.RowKit Go.Proofs.Ytgjhlmelbgikdaa.ic
def leastL (n : Int) : List Int → Int
  | [] => n
  | w :: l => leastL (if w < n then w else n) l
structure GLeast where
  l : List Int
  n : Int
def pLeast : List Nat := [0, 1, 0, 1]
def slLeast (g : GLeast) (i : Nat × Int) : List (Nat × Value) := [(0, .int .i64 i.2), (7, slc 0 g.l.length), (8, .int .i64 (g.l.length : Nat)), (9, .int .i64 (i.1 : Nat))]
def rlLeast (g : GLeast) (_ : Nat × Int) : List (Nat × Row) := [(0, iRo .i64 g.l)]
def wsLeast (g : GLeast) : List (Gate Unit) := [⟨.exit 0, fun _ => True, fun _ => [(0, .int .i64 (leastL g.n g.l))], fun _ => [(0, iRo .i64 g.l)], 1⟩]
def specLeast : Sy.Spec := specOf 1 1 20 (fun g : GLeast => g.l.length ≤ maxLen) (fun g => slLeast g (0, g.n)) (fun g => rlLeast g (0, g.n)) wsLeast
def mLeast := mOf [(15, pLeast, specLeast)]
def max0 (n : Int) : Int := if (0 : Int) > n then 0 else n
theorem least_round (g : GLeast) (i : Nat × Int) (Inv : Nat × Int → Prop) (m : Nat × Int → Nat) : mev E0 noM 60 15 (0 :: pLeast) false (codeOf Try.prog 15 (0 :: pLeast)) ⟨mkOv (slLeast g i), 20, []⟩ none ⟨mkR (rlLeast g i), 1⟩ (roundK 1 1 20 Inv m (slLeast g) (rlLeast g) (wsLeast g) i) =
  (br (decide ((↑i.1 : Int) < (↑(List.length g.1) : Int)))
   (br (decide ((0 : Int) ≤ (↑i.1 : Int) ∧ (↑i.1 : Int) < (↑(List.length g.1) : Int)))
    ((Eq (α := Option Value) ((iCells IntKind.i64 g.1)[(0 : Nat) + Int.toNat (↑i.1 : Int) * (1 : Nat)]?) (some (Value.int IntKind.i64 (cellI (iCells IntKind.i64 g.1) ((0 : Nat) + Int.toNat (↑i.1 : Int) * (1 : Nat)))))) ∧
    (∃ j : Nat × Int, ((Inv j) ∧
    ((m j < m i) ∧
    ((j.2 = if cellI (iCells IntKind.i64 g.1) ((0 : Nat) + Int.toNat (↑i.1 : Int) * (1 : Nat)) < i.2 then cellI (iCells IntKind.i64 g.1) ((0 : Nat) + Int.toNat (↑i.1 : Int) * (1 : Nat)) else i.2) ∧
    (((0 : Nat) = (0 : Nat)) ∧
    ((List.length g.1 = List.length g.1) ∧
    (((↑(List.length g.1) : Int) = (↑(List.length g.1) : Int)) ∧
    (((↑j.1 : Int) = IntKind.wrap IntKind.i64 ((↑i.1 : Int) + (1 : Int))) ∧
    ((Eq (α := List Value) (iCells IntKind.i64 g.1) (iCells IntKind.i64 g.1)) ∧
    ((Plain (iCells IntKind.i64 g.1)) ∧
    True)))))))))))
    False)
   (∃ y : Unit, ((True) ∧
   ((leastL g.2 g.1 = i.2) ∧
   ((Eq (α := List Value) (iCells IntKind.i64 g.1) (iCells IntKind.i64 g.1)) ∧
   ((Plain (iCells IntKind.i64 g.1)) ∧
   True)))))) := by kernel_rfl
theorem least_vc (n : Int) (l : List Int) (x : Int) : mcall E0 mLeast 60 15 [.int .i64 n, slc 0 l.length] ⟨mkR (nums 0 [iRo .i64 l]), 1⟩ (retIs 1 (.int .i64 x) [iRo .i64 l]) =
  (∃ g : GLeast, ((List.length g.1 ≤ (9223372036854775807 : Nat)) ∧
  ((g.2 = n) ∧
  (((0 : Nat) = (0 : Nat)) ∧
  ((List.length g.1 = List.length l) ∧
  (((↑(List.length g.1) : Int) = Int.ofNat (List.length l)) ∧
  (((↑(0 : Nat) : Int) = (0 : Int)) ∧
  ((Eq (α := List Value) (iCells IntKind.i64 g.1) (iCells IntKind.i64 l)) ∧
  ((Plain (iCells IntKind.i64 g.1)) ∧
  (∀ (y : Unit), ((True) →
  ((x = if (0 : Int) > leastL g.2 g.1 then (0 : Int) else leastL g.2 g.1) ∧
  ((Eq (α := List Value) (iCells IntKind.i64 l) (iCells IntKind.i64 g.1)) ∧
  ((Plain (iCells IntKind.i64 l)) ∧
  True)))))))))))))) := by kernel_rfl

def invLeast (g : GLeast) (i : Nat × Int) : Prop := i.1 ≤ g.l.length ∧ leastL i.2 (g.l.drop i.1) = leastL g.n g.l
def msLeast (g : GLeast) (i : Nat × Int) : Nat := g.l.length - i.1
theorem least_piece : PieceOk E0 1 (15, pLeast, specLeast) := by
  refine piece_loop mixed (calls_envN _) (lok_envN _) lm_none (n := 60) (by kernel_rfl) (fun g : GLeast => ((0, g.n) : Nat × Int)) invLeast msLeast (sl := slLeast) (rl := rlLeast) (fun g hg => ⟨Nat.zero_le _, rfl⟩) (fun g s hg hi => ?_)
  refine (least_round g s _ _).mpr ?_
  obtain ⟨i, n⟩ := s
  obtain ⟨h1, h2⟩ := hi
  have hm : maxLen = 9223372036854775807 := by unfold maxLen; rfl
  simp only at h1 h2
  simp only [ofNat_eq, toNat_cast, Nat.zero_add, Nat.add_zero, Nat.mul_one, List.drop_zero, bCells_len, bCells_drop, bCells_take, bCells_app, bCells_one, bCells_plain, List.length_replicate, List.length_append, List.length_take, List.length_drop, List.take_length, and_true, true_and, and_self, decide_true, List.length_nil, List.length_cons, Nat.sub_zero, dB_mk, dB_ro, List.take_zero, iCells_plain]
  refine br_if (fun h => ?_) (fun h => ?_)
  · have hi : i < g.l.length := by omega
    have hd : g.l.drop i = g.l.getD i 0 :: g.l.drop (i + 1) := by
      rw [List.drop_eq_getElem_cons hi]; simp [List.getD, List.getElem?_eq_getElem hi]
    rw [hd, leastL] at h2
    rw [iCells_cell hi]
    have w : IntKind.i64.wrap ((i : Int) + 1) = ((i + 1 : Nat) : Int) := by rw [wr64_id (by unfold I64; omega)]; omega
    rw [w]
    exact br_dec (by omega) ⟨iCells_get hi, (i + 1, _), ⟨by simp only; omega, h2⟩, by unfold msLeast; simp only; omega, rfl, rfl⟩
  · rw [List.drop_eq_nil_of_le (by omega), leastL] at h2
    exact ⟨(), h2.symm⟩
theorem least_con (n : Int) (l : List Int) (hl : l.length ≤ maxLen) : Con Try.prog 15 [.int .i64 n, slc 0 l.length] [iRo .i64 l] (.int .i64 (max0 (leastL n l))) [iRo .i64 l] := by
  refine con_vc (E := E0) mixed (calls_envN _) (lok_envN _) (M := mLeast) (lm_one least_piece) (least_vc n l _) ?_
  have hm : maxLen = 9223372036854775807 := by unfold maxLen; rfl
  exact ⟨⟨l, n⟩, by simp only; omega, rfl, rfl, rfl, rfl, rfl, rfl, iCells_plain _ _, fun _ _ => ⟨rfl, rfl, iCells_plain _ _, trivial⟩⟩
theorem least_snoc (w : Int) : ∀ (l : List Int) (n : Int), leastL n (l ++ [w]) = if w < leastL n l then w else leastL n l
  | [], n => rfl
  | a :: l, n => by rw [List.cons_append, leastL, least_snoc w l, leastL]
end Go.Proofs.Ytgjhlmelbgikdaa.wn
