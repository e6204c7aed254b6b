/- Lists of texts held against each other. -/
import Derived.Test.YtcjbpmphkmcmjaaSz9
import Derived.Test.YtcjbpmphkmcmjaaRows
import Derived.Test.YtcjbpmphkmcmjaaLk9
set_option maxRecDepth 20000
set_option linter.unusedSimpArgs false
set_option linter.unusedVariables false
namespace Go.Proofs.Ytcjbpmphkmcmjaa.sb
open Go Go.Ev Go.Sy Go.RowKit Go.Proofs.Ytcjbpmphkmcmjaa.gl Go.Proofs.Ytcjbpmphkmcmjaa.tk
def pSame : List Nat := [0, 1, 0, 1, 1]
structure GSame where
  a : List (List UInt8)
  b : List (List UInt8)
def slSame (g : GSame) (i : Nat) : List (Nat × Value) := [(0, .slice (some ⟨0, 0, none⟩) g.a.length 1), (1, .slice (some ⟨1, 0, none⟩) g.b.length 1), (5, .int .i64 (i : Nat))]
def rlSame (g : GSame) : List (Nat × Row) := [(0, gRo enS g.a), (1, gRo enS g.b)]
def wsSame (g : GSame) : List (Gate Unit) := [⟨.exit 0, fun _ => g.a = g.b, fun _ => [], fun _ => rlSame g, 2⟩, ⟨.ret, fun _ => g.a ≠ g.b, fun _ => [(4, .bool false)], fun _ => rlSame g, 2⟩]
def specSame : Sy.Spec := specOf 2 2 26 (fun g : GSame => g.a.length = g.b.length ∧ g.a.length ≤ maxLen) (fun g => slSame g 0) (fun g => rlSame g) wsSame
def mSame := mOf [(16, pSame, specSame)]
def sameS (a b : List (List UInt8)) : Bool := decide (a = b)
def sameR (a b : Row) : Bool := sameS (decS a.cells) (decS b.cells)
theorem same_round (g : GSame) (i : Nat) (Inv : Nat → Prop) (m : Nat → Nat) : mev E0 noM 60 16 (0 :: pSame) false (codeOf Try.prog 16 (0 :: pSame)) ⟨mkOv (slSame g i), 26, []⟩ none ⟨mkR (rlSame g), 2⟩ (roundK 2 2 26 Inv m (slSame g) (fun _ => rlSame g) (wsSame g) i) =
  let z1 := ((Eq (α := List Value) (gC enS g.1) (gC enS g.1)) /\ ((Plain (gC enS g.1)) /\ ((Eq (α := List Value) (gC enS g.2) (gC enS g.2)) /\ ((Plain (gC enS g.2)) /\
  True)))); let z2 := (cellS (gC enS g.1) (0 + Int.toNat (↑i : Int) * 1)); let z3 := (cellS (gC enS g.2) (0 + Int.toNat (↑i : Int) * 1)); let z4 := (Eq (α := Option Value)
  ((gC enS g.1)[0 + Int.toNat (↑i : Int) * 1]?) (some (Value.string z2))); let z5 := (Eq (α := Option Value) ((gC enS g.2)[0 + Int.toNat (↑i : Int) * 1]?) (some
  (Value.string z3))); (br (decide ((↑i : Int) < Int.ofNat (List.length g.1))) (br (decide ((0 : Int) <= (↑i : Int) /\ (↑i : Int) < (↑(List.length g.1) : Int))) (z4 /\ (br
  (decide ((0 : Int) <= (↑i : Int) /\ (↑i : Int) < (↑(List.length g.2) : Int))) (z5 /\ (z4 /\ ((Value.string z2 = Value.string z2) /\ (z5 /\ ((Value.string z3 = Value.string
  z3) /\ (br (!strEq z2 z3) (∃ y : Unit, ((g.1 ≠ g.2) /\ ((false = false) /\ z1))) (∃ j : Nat, ((Inv j) /\ ((m j < m i) /\ ((0 = 0) /\ ((List.length g.1 = List.length g.1)
  /\ ((0 = 0) /\ ((List.length g.2 = List.length g.2) /\ (((↑j : Int) = IntKind.wrap IntKind.i64 ((↑i : Int) + (1 : Int))) /\ z1)))))))))))))) False)) False) (∃ y : Unit,
  ((Eq (α := List (List UInt8)) (g.1) (g.2)) /\ z1))) := by kernel_rfl
theorem same_vc (a b : List (List UInt8)) (v : Bool) : mcall E0 mSame 60 16 [.slice (some ⟨0, 0, none⟩) a.length 1, .slice (some ⟨1, 0, none⟩) b.length 1] ⟨mkR (nums 0 [gRo enS a, gRo enS b]), 2⟩ (retIs 2 (.bool v) [gRo enS a, gRo enS b]) =
  (br (Int.ofNat (List.length a) != Int.ofNat (List.length b)) ((v = false) /\ ((Eq (α := List Value) (gC enS a) (gC enS a)) /\ ((Plain (gC enS a)) /\ ((Eq (α := List Value)
  (gC enS b) (gC enS b)) /\ ((Plain (gC enS b)) /\ True))))) (∃ g : GSame, let w1 := ((Eq (α := List Value) (gC enS a) (gC enS g.1)) /\ ((Plain (gC enS a)) /\ ((Eq (α :=
  List Value) (gC enS b) (gC enS g.2)) /\ ((Plain (gC enS b)) /\ True)))); ((List.length g.1 = List.length g.2 /\ List.length g.1 <= 9223372036854775807) /\ ((0 = 0) /\
  ((List.length g.1 = List.length a) /\ ((0 = 0) /\ ((List.length g.2 = List.length b) /\ (((0 : Int) = (0 : Int)) /\ ((Eq (α := List Value) (gC enS g.1) (gC enS a)) /\
  ((Plain (gC enS g.1)) /\ ((Eq (α := List Value) (gC enS g.2) (gC enS b)) /\ ((Plain (gC enS g.2)) /\ (∀ (side : Bool), (br (side) (∀ (y : Unit), ((g.1 = g.2) → ((v = true)
  /\ w1))) (∀ (y : Unit), ((g.1 ≠ g.2) → ((v = false) /\ w1))))))))))))))))) := by kernel_rfl
theorem take_succ {α : Type} {l : List α} {i : Nat} (h : i < l.length) : l.take (i + 1) = l.take i ++ [l[i]] := List.take_succ_eq_append_getElem h
def invSame (g : GSame) (i : Nat) : Prop := i ≤ g.a.length ∧ g.a.take i = g.b.take i
theorem same_piece : PieceOk E0 2 (16, pSame, specSame) := by
  refine piece_loop mixed (calls_envN _) (lok_envN _) lm_none (n := 60) (by kernel_rfl) (fun _ => 0) invSame (fun g i => g.a.length - i) (sl := slSame) (rl := fun g _ => rlSame g) (fun g _ => ⟨by omega, rfl⟩) (fun g i hg hi => ?_)
  obtain ⟨g1, g2⟩ := hg
  unfold maxLen at g2
  refine (same_round g i _ _).mpr ?_
  simp only [ofNat_eq, toNat_cast, Nat.zero_add, Nat.add_zero, Nat.mul_one, List.drop_zero, bCells_len, bCells_drop, bCells_take, bCells_app, bCells_one, bCells_plain, List.length_replicate, List.length_append, List.length_take, List.length_drop, List.take_length, and_true, true_and, and_self, decide_true, List.length_nil, List.length_cons, Nat.sub_zero, dB_mk, dB_ro, List.take_zero, sPl]
  refine br_if (fun h => br_dec (by omega) ?_) (fun h => ?_)
  · have h1 : i < g.a.length := by omega
    have h2 : i < g.b.length := by omega
    obtain ⟨c1, c2⟩ := sGet g.a i h1
    obtain ⟨d1, d2⟩ := sGet g.b i h2
    simp only [c1, c2, d1, d2, true_and, strEq_bs]
    refine br_dec (by omega) (br_intro (fun h3 => ⟨(), fun e => ?_⟩) (fun h3 => ?_))
    · have e' : g.a[i] = g.b[i] := by simp only [e]
      rw [e'] at h3; simp at h3
    · have h5 : g.a[i] = g.b[i] := by simpa using h3
      refine ⟨i + 1, ⟨by omega, ?_⟩, by omega, (i64_succ (by omega)).symm⟩
      rw [take_succ h1, take_succ h2, hi.2, h5]
  · refine ⟨(), ?_⟩
    have := hi.2
    rw [List.take_of_length_le (by omega), List.take_of_length_le (by omega)] at this
    exact this
theorem same_con (a b : List (List UInt8)) (ha : a.length ≤ maxLen) : Con Try.prog 16 [.slice (some ⟨0, 0, none⟩) a.length 1, .slice (some ⟨1, 0, none⟩) b.length 1] [gRo enS a, gRo enS b] (.bool (sameS a b)) [gRo enS a, gRo enS b] := by
  refine con_vc (E := E0) mixed (calls_envN _) (lok_envN _) (M := mSame) (lm_one same_piece) (same_vc a b _) ?_
  simp only [ofNat_eq, toNat_cast, Nat.zero_add, Nat.add_zero, Nat.mul_one, List.drop_zero, bCells_len, bCells_drop, bCells_take, bCells_app, bCells_one, bCells_plain, List.length_replicate, List.length_append, List.length_take, List.length_drop, List.take_length, and_true, true_and, and_self, decide_true, List.length_nil, List.length_cons, Nat.sub_zero, dB_mk, dB_ro, List.take_zero, sPl]
  refine br_intro (fun h => ?_) (fun h => ?_)
  · unfold sameS; rw [decide_eq_false]
    intro e; rw [e] at h; simp at h
  · have h : a.length = b.length := by
      have : (a.length : Int) = b.length := by simpa using h
      omega
    refine ⟨⟨a, b⟩, ⟨h, ha⟩, rfl, rfl, rfl, rfl, br_side (fun _ e => ?_) (fun _ e => ?_)⟩
    · exact ⟨by unfold sameS; exact decide_eq_true e, rfl, rfl⟩
    · exact ⟨by unfold sameS; exact decide_eq_false e, rfl, rfl⟩
theorem sameR_gC (a b : List (List UInt8)) (x y : Bool) (o p : Ob) : sameR ⟨gC enS a, x, o⟩ ⟨gC enS b, y, p⟩ = decide (a = b) := by
  unfold sameR sameS; simp only; rw [decS_gC, decS_gC]
end Go.Proofs.Ytcjbpmphkmcmjaa.sb
