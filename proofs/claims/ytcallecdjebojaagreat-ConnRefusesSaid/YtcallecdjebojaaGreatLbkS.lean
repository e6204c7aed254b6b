/- Lists of bytes held against each other. -/
import Derived.Test.YtcallecdjebojaaGreatSz9
import Derived.Test.YtcallecdjebojaaGreatRows
import Derived.Test.YtcallecdjebojaaGreatLbk0
set_option maxRecDepth 20000
set_option linter.unusedSimpArgs false
set_option linter.unusedVariables false
namespace Go.Proofs.YtcallecdjebojaaGreat.bk
open Go Go.Ev Go.Sy Go.RowKit
def pSame : List Nat := [0, 1, 0, 1, 1]
structure GSame where
  a : List UInt8
  b : List UInt8
def slSame (g : GSame) (i : Nat) : List (Nat × Value) := [(0, slc 0 g.a.length), (1, slc 1 g.b.length), (5, .int .i64 i)]
def rlSame (g : GSame) : List (Nat × Row) := [(0, bRo g.a), (1, bRo g.b)]
def wsSame (g : GSame) : List (Gate Unit) := [⟨.exit 0, fun _ => g.a = g.b, fun _ => [], fun _ => rlSame g, 2⟩, ⟨.ret, fun _ => g.a ≠ g.b, fun _ => [(4, .bool false)], fun _ => rlSame g, 2⟩]
def specSame : Sy.Spec := specOf 2 2 26 (fun g : GSame => g.a.length = g.b.length ∧ g.a.length ≤ maxLen) (fun g => slSame g 0) (fun g => rlSame g) wsSame
def mSame := mOf [(15, pSame, specSame)]
theorem same_round (g : GSame) (i : Nat) (Inv : Nat → Prop) (m : Nat → Nat) : mev E0 noM 60 15 (0 :: pSame) false (codeOf Tryz.prog 15 (0 :: pSame)) ⟨mkOv (slSame g i), 26, []⟩ none ⟨mkR (rlSame g), 2⟩ (roundK 2 2 26 Inv m (slSame g) (fun _ => rlSame g) (wsSame g) i) =
  (br (decide ((↑i : Int) < Int.ofNat (List.length g.1))) (br (decide ((0 : Int) <= (↑i : Int) /\ (↑i : Int) < (↑(List.length g.1) : Int))) ((Eq (α := Option Value) ((bCells
  g.1)[0 + Int.toNat (↑i : Int) * 1]?) (some (Value.int IntKind.u8 (cellI (bCells g.1) (0 + Int.toNat (↑i : Int) * 1))))) /\ (br (decide ((0 : Int) <= (↑i : Int) /\ (↑i :
  Int) < (↑(List.length g.2) : Int))) ((Eq (α := Option Value) ((bCells g.2)[0 + Int.toNat (↑i : Int) * 1]?) (some (Value.int IntKind.u8 (cellI (bCells g.2) (0 + Int.toNat
  (↑i : Int) * 1))))) /\ ((Eq (α := Option Value) ((bCells g.1)[0 + Int.toNat (↑i : Int) * 1]?) (some (Value.int IntKind.u8 (cellI (bCells g.1) (0 + Int.toNat (↑i : Int) *
  1))))) /\ ((Value.int IntKind.u8 (cellI (bCells g.1) (0 + Int.toNat (↑i : Int) * 1)) = Value.int IntKind.u8 (cellI (bCells g.1) (0 + Int.toNat (↑i : Int) * 1))) /\ ((Eq (α
  := Option Value) ((bCells g.2)[0 + Int.toNat (↑i : Int) * 1]?) (some (Value.int IntKind.u8 (cellI (bCells g.2) (0 + Int.toNat (↑i : Int) * 1))))) /\ ((Value.int IntKind.u8
  (cellI (bCells g.2) (0 + Int.toNat (↑i : Int) * 1)) = Value.int IntKind.u8 (cellI (bCells g.2) (0 + Int.toNat (↑i : Int) * 1))) /\ (br (cellI (bCells g.1) (0 + Int.toNat
  (↑i : Int) * 1) != cellI (bCells g.2) (0 + Int.toNat (↑i : Int) * 1)) (∃ y : Unit, ((g.1 ≠ g.2) /\ ((false = false) /\ ((Eq (α := List Value) (bCells g.1) (bCells g.1)) /\
  ((Plain (bCells g.1)) /\ ((Eq (α := List Value) (bCells g.2) (bCells g.2)) /\ ((Plain (bCells g.2)) /\ True))))))) (∃ j : Nat, ((Inv j) /\ ((m j < m i) /\ ((0 = 0) /\
  ((List.length g.1 = List.length g.1) /\ ((0 = 0) /\ ((List.length g.2 = List.length g.2) /\ (((↑j : Int) = IntKind.wrap IntKind.i64 ((↑i : Int) + (1 : Int))) /\ ((Eq (α :=
  List Value) (bCells g.1) (bCells g.1)) /\ ((Plain (bCells g.1)) /\ ((Eq (α := List Value) (bCells g.2) (bCells g.2)) /\ ((Plain (bCells g.2)) /\ True))))))))))))))))))
  False)) False) (∃ y : Unit, ((Eq (α := List UInt8) (g.1) (g.2)) /\ ((Eq (α := List Value) (bCells g.1) (bCells g.1)) /\ ((Plain (bCells g.1)) /\ ((Eq (α := List Value)
  (bCells g.2) (bCells g.2)) /\ ((Plain (bCells g.2)) /\ True))))))) := by kernel_rfl
theorem same_vc (a b : List UInt8) (v : Bool) : mcall E0 mSame 60 15 [slc 0 a.length, slc 1 b.length] ⟨mkR (nums 0 [bRo a, bRo b]), 2⟩ (retIs 2 (.bool v) [bRo a, bRo b]) =
  (br (Int.ofNat (List.length a) != Int.ofNat (List.length b)) ((v = false) /\ ((Eq (α := List Value) (bCells a) (bCells a)) /\ ((Plain (bCells a)) /\ ((Eq (α := List Value)
  (bCells b) (bCells b)) /\ ((Plain (bCells b)) /\ True))))) (∃ g : GSame, ((List.length g.1 = List.length g.2 /\ List.length g.1 <= 9223372036854775807) /\ ((0 = 0) /\
  ((List.length g.1 = List.length a) /\ ((0 = 0) /\ ((List.length g.2 = List.length b) /\ (((0 : Int) = (0 : Int)) /\ ((Eq (α := List Value) (bCells g.1) (bCells a)) /\
  ((Plain (bCells g.1)) /\ ((Eq (α := List Value) (bCells g.2) (bCells b)) /\ ((Plain (bCells g.2)) /\ (∀ (side : Bool), (br (side) (∀ (y : Unit), ((g.1 = g.2) → ((v = true)
  /\ ((Eq (α := List Value) (bCells a) (bCells g.1)) /\ ((Plain (bCells a)) /\ ((Eq (α := List Value) (bCells b) (bCells g.2)) /\ ((Plain (bCells b)) /\ True))))))) (∀ (y :
  Unit), ((g.1 ≠ g.2) → ((v = false) /\ ((Eq (α := List Value) (bCells a) (bCells g.1)) /\ ((Plain (bCells a)) /\ ((Eq (α := List Value) (bCells b) (bCells g.2)) /\ ((Plain
  (bCells b)) /\ True))))))))))))))))))))) := by kernel_rfl
def invSame (g : GSame) (i : Nat) : Prop := i ≤ g.a.length ∧ g.a.take i = g.b.take i
theorem same_piece : PieceOk E0 2 (15, pSame, specSame) := by
  refine piece_loop mixed (calls_envN _) (lok_envN _) lm_none (n := 60) (by kernel_rfl) (fun _ => 0) invSame (fun g i => g.a.length - i) (sl := slSame) (rl := fun g _ => rlSame g) (fun g _ => ⟨by omega, rfl⟩) (fun g i hg hi => ?_)
  obtain ⟨g1, g2⟩ := hg
  unfold maxLen at g2
  refine (same_round g i _ _).mpr ?_
  refine br_intro (fun h => ?_) (fun h => ?_)
  · have h : i < g.a.length := by simpa using h
    have e : (0 : Nat) + Int.toNat (i : Int) * (1 : Nat) = i := by omega
    have h2 : i < g.b.length := by omega
    simp only [e, i64_succ (show i < 9223372036854775807 by omega), bCells_get h, bCells_get h2, bCells_cell h, bCells_cell h2, true_and, in_nat h, in_nat h2, and_self, decide_true, bCells_plain, and_true]
    refine br_intro (fun _ => br_intro (fun _ => br_intro (fun h3 => ?_) (fun h3 => ?_)) (fun h => by simp at h)) (fun h => by simp at h)
    · refine ⟨(), fun e0 => ?_⟩
      rw [e0] at h3; simp at h3
    · have h4 : g.a.getD i 0 = g.b.getD i 0 := u8_eq (by simpa using h3)
      refine ⟨i + 1, ⟨by omega, ?_⟩, by omega, rfl⟩
      rw [take_succ_getD h, take_succ_getD h2, hi.2, h4]
  · have h : ¬ i < g.a.length := by simpa using h
    refine ⟨(), ?_, by simp [bCells_plain]⟩
    have := hi.2
    rw [List.take_of_length_le (by omega), List.take_of_length_le (by omega)] at this
    exact this
theorem same_con (a b : List UInt8) (ha : a.length ≤ maxLen) : Con Tryz.prog 15 [slc 0 a.length, slc 1 b.length] [bRo a, bRo b] (.bool (decide (a = b))) [bRo a, bRo b] := by
  refine con_vc (E := E0) mixed (calls_envN _) (lok_envN _) (M := mSame) (lm_one same_piece) (same_vc a b _) ?_
  refine br_intro (fun h => ?_) (fun h => ?_)
  · refine ⟨decide_eq_false fun e => ?_, by simp [bCells_plain]⟩
    rw [e] at h; simp at h
  · have h : a.length = b.length := by
      have : (a.length : Int) = b.length := by simpa using h
      omega
    refine ⟨⟨a, b⟩, ⟨h, ha⟩, rfl, rfl, rfl, rfl, rfl, rfl, bCells_plain _, rfl, bCells_plain _, fun side => br_intro (fun _ _ e => ?_) (fun _ _ e => ?_)⟩
    · exact ⟨decide_eq_true e, rfl, bCells_plain _, rfl, bCells_plain _, trivial⟩
    · exact ⟨decide_eq_false e, rfl, bCells_plain _, rfl, bCells_plain _, trivial⟩
end Go.Proofs.YtcallecdjebojaaGreat.bk
