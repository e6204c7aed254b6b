/- Lists of numbers held against each other. -/
import Derived.Test.YtekijelmdajhlaaSz9
import Derived.Test.YtekijelmdajhlaaRows
import Derived.Test.YtekijelmdajhlaaLtok
import Derived.Test.YtekijelmdajhlaaLints
set_option linter.unusedSimpArgs false
set_option linter.unusedVariables false
namespace Go.Proofs.Ytekijelmdajhlaa.ibk
open Go Go.Ev Go.Sy Go.RowKit Go.Proofs.Ytekijelmdajhlaa.tk Go.Proofs.Ytekijelmdajhlaa.ic
def pSame : List Nat := [0, 1, 0, 1, 1]
structure GSame where
  a : List Int
  b : List Int
def slSame (g : GSame) (i : Nat) : List (Nat × Value) := [(0, slc 0 g.a.length), (1, slc 1 g.b.length), (5, .int .i64 (i : Nat))]
def rlSame (g : GSame) : List (Nat × Row) := [(0, iRo .i64 g.a), (1, iRo .i64 g.b)]
def wsSame (g : GSame) : List (Gate Unit) := [⟨.exit 0, fun _ => g.a = g.b, fun _ => [], fun _ => rlSame g, 2⟩, ⟨.ret, fun _ => g.a ≠ g.b, fun _ => [(4, .bool false)], fun _ => rlSame g, 2⟩]
def specSame : Sy.Spec := specOf 2 2 26 (fun g : GSame => g.a.length = g.b.length ∧ g.a.length ≤ maxLen) (fun g => slSame g 0) (fun g => rlSame g) wsSame
def mSame := mOf [(27, pSame, specSame)]
theorem same_round (g : GSame) (i : Nat) (Inv : Nat → Prop) (m : Nat → Nat) : mev E0 noM 60 27 (0 :: pSame) false (codeOf Try.prog 27 (0 :: pSame)) ⟨mkOv (slSame g i), 26, []⟩ none ⟨mkR (rlSame g), 2⟩ (roundK 2 2 26 Inv m (slSame g) (fun _ => rlSame g) (wsSame g) i) =
  (br (decide ((↑i : Int) < Int.ofNat (List.length g.1))) (br (decide ((0 : Int) <= (↑i : Int) /\ (↑i : Int) < (↑(List.length g.1) : Int))) ((Eq (α := Option Value) ((iCells
  IntKind.i64 g.1)[0 + Int.toNat (↑i : Int) * 1]?) (some (Value.int IntKind.i64 (cellI (iCells IntKind.i64 g.1) (0 + Int.toNat (↑i : Int) * 1))))) /\ (br (decide ((0 : Int)
  <= (↑i : Int) /\ (↑i : Int) < (↑(List.length g.2) : Int))) ((Eq (α := Option Value) ((iCells IntKind.i64 g.2)[0 + Int.toNat (↑i : Int) * 1]?) (some (Value.int IntKind.i64
  (cellI (iCells IntKind.i64 g.2) (0 + Int.toNat (↑i : Int) * 1))))) /\ ((Eq (α := Option Value) ((iCells IntKind.i64 g.1)[0 + Int.toNat (↑i : Int) * 1]?) (some (Value.int
  IntKind.i64 (cellI (iCells IntKind.i64 g.1) (0 + Int.toNat (↑i : Int) * 1))))) /\ ((Value.int IntKind.i64 (cellI (iCells IntKind.i64 g.1) (0 + Int.toNat (↑i : Int) * 1)) =
  Value.int IntKind.i64 (cellI (iCells IntKind.i64 g.1) (0 + Int.toNat (↑i : Int) * 1))) /\ ((Eq (α := Option Value) ((iCells IntKind.i64 g.2)[0 + Int.toNat (↑i : Int) *
  1]?) (some (Value.int IntKind.i64 (cellI (iCells IntKind.i64 g.2) (0 + Int.toNat (↑i : Int) * 1))))) /\ ((Value.int IntKind.i64 (cellI (iCells IntKind.i64 g.2) (0 +
  Int.toNat (↑i : Int) * 1)) = Value.int IntKind.i64 (cellI (iCells IntKind.i64 g.2) (0 + Int.toNat (↑i : Int) * 1))) /\ (br (cellI (iCells IntKind.i64 g.1) (0 + Int.toNat
  (↑i : Int) * 1) != cellI (iCells IntKind.i64 g.2) (0 + Int.toNat (↑i : Int) * 1)) (∃ y : Unit, ((g.1 ≠ g.2) /\ ((false = false) /\ ((Eq (α := List Value) (iCells
  IntKind.i64 g.1) (iCells IntKind.i64 g.1)) /\ ((Plain (iCells IntKind.i64 g.1)) /\ ((Eq (α := List Value) (iCells IntKind.i64 g.2) (iCells IntKind.i64 g.2)) /\ ((Plain
  (iCells IntKind.i64 g.2)) /\ True))))))) (∃ j : Nat, ((Inv j) /\ ((m j < m i) /\ ((0 = 0) /\ ((List.length g.1 = List.length g.1) /\ ((0 = 0) /\ ((List.length g.2 =
  List.length g.2) /\ (((↑j : Int) = IntKind.wrap IntKind.i64 ((↑i : Int) + (1 : Int))) /\ ((Eq (α := List Value) (iCells IntKind.i64 g.1) (iCells IntKind.i64 g.1)) /\
  ((Plain (iCells IntKind.i64 g.1)) /\ ((Eq (α := List Value) (iCells IntKind.i64 g.2) (iCells IntKind.i64 g.2)) /\ ((Plain (iCells IntKind.i64 g.2)) /\
  True)))))))))))))))))) False)) False) (∃ y : Unit, ((Eq (α := List Int) (g.1) (g.2)) /\ ((Eq (α := List Value) (iCells IntKind.i64 g.1) (iCells IntKind.i64 g.1)) /\
  ((Plain (iCells IntKind.i64 g.1)) /\ ((Eq (α := List Value) (iCells IntKind.i64 g.2) (iCells IntKind.i64 g.2)) /\ ((Plain (iCells IntKind.i64 g.2)) /\ True))))))) := by kernel_rfl
theorem same_vc (a b : List Int) (v : Bool) : mcall E0 mSame 60 27 [slc 0 a.length, slc 1 b.length] ⟨mkR (nums 0 [iRo .i64 a, iRo .i64 b]), 2⟩ (retIs 2 (.bool v) [iRo .i64 a, iRo .i64 b]) =
  (br (Int.ofNat (List.length a) != Int.ofNat (List.length b)) ((v = false) /\ ((Eq (α := List Value) (iCells IntKind.i64 a) (iCells IntKind.i64 a)) /\ ((Plain (iCells
  IntKind.i64 a)) /\ ((Eq (α := List Value) (iCells IntKind.i64 b) (iCells IntKind.i64 b)) /\ ((Plain (iCells IntKind.i64 b)) /\ True))))) (∃ g : GSame, ((List.length g.1 =
  List.length g.2 /\ List.length g.1 <= 9223372036854775807) /\ ((0 = 0) /\ ((List.length g.1 = List.length a) /\ ((0 = 0) /\ ((List.length g.2 = List.length b) /\ (((0 :
  Int) = (0 : Int)) /\ ((Eq (α := List Value) (iCells IntKind.i64 g.1) (iCells IntKind.i64 a)) /\ ((Plain (iCells IntKind.i64 g.1)) /\ ((Eq (α := List Value) (iCells
  IntKind.i64 g.2) (iCells IntKind.i64 b)) /\ ((Plain (iCells IntKind.i64 g.2)) /\ (∀ (side : Bool), (br (side) (∀ (y : Unit), ((g.1 = g.2) → ((v = true) /\ ((Eq (α := List
  Value) (iCells IntKind.i64 a) (iCells IntKind.i64 g.1)) /\ ((Plain (iCells IntKind.i64 a)) /\ ((Eq (α := List Value) (iCells IntKind.i64 b) (iCells IntKind.i64 g.2)) /\
  ((Plain (iCells IntKind.i64 b)) /\ True))))))) (∀ (y : Unit), ((g.1 ≠ g.2) → ((v = false) /\ ((Eq (α := List Value) (iCells IntKind.i64 a) (iCells IntKind.i64 g.1)) /\
  ((Plain (iCells IntKind.i64 a)) /\ ((Eq (α := List Value) (iCells IntKind.i64 b) (iCells IntKind.i64 g.2)) /\ ((Plain (iCells IntKind.i64 b)) /\ True))))))))))))))))))))) := by kernel_rfl
def invSame (g : GSame) (i : Nat) : Prop := i ≤ g.a.length ∧ g.a.take i = g.b.take i
theorem take_getD {l : List Int} {i : Nat} (h : i < l.length) : l.take (i + 1) = l.take i ++ [l.getD i 0] := by
  rw [List.take_succ_eq_append_getElem h]; simp [List.getD, List.getElem?_eq_getElem h]
theorem same_piece : PieceOk E0 2 (27, pSame, specSame) := by
  refine piece_loop mixed (calls_envN _) (lok_envN _) lm_none (n := 60) (by kernel_rfl) (fun _ => 0) invSame (fun g i => g.a.length - i) (sl := slSame) (rl := fun g _ => rlSame g) (fun g _ => ⟨by omega, rfl⟩) (fun g i hg hi => ?_)
  obtain ⟨g1, g2⟩ := hg
  unfold maxLen at g2
  refine (same_round g i _ _).mpr ?_
  simp only [ofNat_eq, toNat_cast, Nat.zero_add, Nat.add_zero, Nat.mul_one, List.drop_zero, bCells_len, bCells_drop, bCells_take, bCells_app, bCells_one, bCells_plain, List.length_replicate, List.length_append, List.length_take, List.length_drop, List.take_length, and_true, true_and, and_self, decide_true, List.length_nil, List.length_cons, Nat.sub_zero, dB_mk, dB_ro, List.take_zero, iCells_plain, iCells_len, true_and, and_true, Nat.zero_add, Nat.mul_one, Int.toNat_natCast]
  refine br_if (fun h => br_dec (by omega) ?_) (fun h => ⟨(), ?_⟩)
  · have h1 : i < g.a.length := by omega
    have h2 : i < g.b.length := by omega
    simp only [i64_succ (show i < 9223372036854775807 by omega), iCells_get h1, iCells_get h2, iCells_cell h1, iCells_cell h2, true_and]
    refine br_dec (by omega) (br_intro (fun h3 => ⟨(), fun e0 => ?_⟩) (fun h3 => ⟨i + 1, ⟨by omega, ?_⟩, by omega, rfl⟩))
    · rw [e0] at h3; simp at h3
    · have h4 : g.a.getD i 0 = g.b.getD i 0 := by simpa using h3
      rw [take_getD h1, take_getD h2, hi.2, h4]
  · have := hi.2
    rw [List.take_of_length_le (by omega), List.take_of_length_le (by omega)] at this
    exact this
theorem same_con (a b : List Int) (ha : a.length ≤ maxLen) : Con Try.prog 27 [slc 0 a.length, slc 1 b.length] [iRo .i64 a, iRo .i64 b] (.bool (decide (a = b))) [iRo .i64 a, iRo .i64 b] := by
  refine con_vc (E := E0) mixed (calls_envN _) (lok_envN _) (M := mSame) (lm_one same_piece) (same_vc a b _) ?_
  refine br_intro (fun h => ?_) (fun h => ?_)
  · refine ⟨decide_eq_false fun e => ?_, rfl, iCells_plain _ _, rfl, iCells_plain _ _, trivial⟩
    rw [e] at h; simp at h
  · have h : a.length = b.length := by
      have : (a.length : Int) = b.length := by simpa using h
      omega
    refine ⟨⟨a, b⟩, ⟨h, ha⟩, rfl, rfl, rfl, rfl, rfl, rfl, iCells_plain _ _, rfl, iCells_plain _ _, fun side => br_intro (fun _ _ e => ?_) (fun _ _ e => ?_)⟩
    · exact ⟨decide_eq_true e, rfl, iCells_plain _ _, rfl, iCells_plain _ _, trivial⟩
    · exact ⟨decide_eq_false e, rfl, iCells_plain _ _, rfl, iCells_plain _ _, trivial⟩
end Go.Proofs.Ytekijelmdajhlaa.ibk
