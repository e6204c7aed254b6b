/- Lists of rows held against each other. -/
import Derived.Test.YtellbmbklfbbfaaSz9
import Derived.Test.YtellbmbklfbbfaaRows
import Derived.Test.YtellbmbklfbbfaaLupD
set_option maxRecDepth 20000
set_option linter.unusedSimpArgs false
set_option linter.unusedVariables false
namespace Go.Proofs.Ytellbmbklfbbfaa.wr
open Go Go.Ev Go.Sy Go.RowKit Go.Proofs.Ytellbmbklfbbfaa.gl Go.Proofs.Ytellbmbklfbbfaa.tk Go.Proofs.Ytellbmbklfbbfaa.up
def pSame : List Nat := [0, 1, 0, 1, 1]
structure GSame where
  a : List Wr
  b : List Wr
def slSame (g : GSame) (i : Nat) : List (Nat × Value) := [(0, .slice (some ⟨0, 0, none⟩) g.a.length 3), (1, .slice (some ⟨1, 0, none⟩) g.b.length 3), (5, .int .i64 (i : Nat))]
def rlSame (g : GSame) : List (Nat × Row) := [(0, gRo enW g.a), (1, gRo enW g.b)]
def wsSame (g : GSame) : List (Gate Unit) := [⟨.exit 0, fun _ => g.a = g.b, fun _ => [], fun _ => rlSame g, 2⟩, ⟨.ret, fun _ => g.a ≠ g.b, fun _ => [(4, .bool false)], fun _ => rlSame g, 2⟩]
def specSame : Sy.Spec := specOf 2 2 26 (fun g : GSame => g.a.length = g.b.length ∧ g.a.length ≤ maxLen) (fun g => slSame g 0) (fun g => rlSame g) wsSame
def mSame := mOf [(11, pSame, specSame)]
def dSe (r : Row) : List Wr := decW r.cells
def IsSe (r : Row) (n : Nat) : Prop := ∃ l, r = gRo enW l ∧ n = l.length
open Classical in
noncomputable def sameSe (a b : List Wr) : Bool := decide (a = b)
noncomputable def saW : Row → Row → Bool := sealV fun a b => sameSe (dSe a) (dSe b)
noncomputable def eSaW : EntM := entC 11 fun a r => match a, r with
  | [.slice (some ⟨0, 0, none⟩) n 3, .slice (some ⟨1, 0, none⟩) m 3], [r0, r1] => some (IsSe r0 n ∧ IsSe r1 m ∧ n ≤ maxLen, .bool (saW r0 r1), [])
  | _, _ => none
theorem same_round (g : GSame) (i : Nat) (Inv : Nat → Prop) (m : Nat → Nat) : mev tk.E0 noM 60 11 (0 :: pSame) false (codeOf Try.prog 11 (0 :: pSame)) ⟨mkOv (slSame g i), 26, []⟩ none ⟨mkR (rlSame g), 2⟩ (roundK 2 2 26 Inv m (slSame g) (fun _ => rlSame g) (wsSame g) i) =
  let z1 := ((Eq (α := List Value) (gC enW g.1) (gC enW g.1)) /\ ((Plain (gC enW g.1)) /\ ((Eq (α := List Value) (gC enW g.2) (gC enW g.2)) /\ ((Plain (gC enW g.2)) /\
  True)))); let z2 := (Array.mk [Value.string (cellS (gC enW g.1) (0 + Int.toNat (↑i : Int) * 3)), Value.string (cellS (gC enW g.1) (0 + Int.toNat (↑i : Int) * 3 + 1)),
  Value.int IntKind.i64 (cellI (gC enW g.1) (0 + Int.toNat (↑i : Int) * 3 + 1 + 1))]); let z3 := (Array.mk [Value.string (cellS (gC enW g.2) (0 + Int.toNat (↑i : Int) * 3)),
  Value.string (cellS (gC enW g.2) (0 + Int.toNat (↑i : Int) * 3 + 1)), Value.int IntKind.i64 (cellI (gC enW g.2) (0 + Int.toNat (↑i : Int) * 3 + 1 + 1))]); let z4 := (Eq (α
  := Option Value) ((gC enW g.1)[0 + Int.toNat (↑i : Int) * 3 + 1 + 1]?) (some (Value.int IntKind.i64 (cellI (gC enW g.1) (0 + Int.toNat (↑i : Int) * 3 + 1 + 1))))); let z5
  := (Eq (α := Option Value) ((gC enW g.2)[0 + Int.toNat (↑i : Int) * 3 + 1 + 1]?) (some (Value.int IntKind.i64 (cellI (gC enW g.2) (0 + Int.toNat (↑i : Int) * 3 + 1 +
  1))))); let z6 := (Eq (α := Option Value) ((gC enW g.1)[0 + Int.toNat (↑i : Int) * 3 + 1]?) (some (Value.string (cellS (gC enW g.1) (0 + Int.toNat (↑i : Int) * 3 + 1)))));
  let z7 := (Eq (α := Option Value) ((gC enW g.2)[0 + Int.toNat (↑i : Int) * 3 + 1]?) (some (Value.string (cellS (gC enW g.2) (0 + Int.toNat (↑i : Int) * 3 + 1))))); let z8
  := (Eq (α := Option Value) ((gC enW g.1)[0 + Int.toNat (↑i : Int) * 3]?) (some (Value.string (cellS (gC enW g.1) (0 + Int.toNat (↑i : Int) * 3))))); let z9 := (Eq (α :=
  Option Value) ((gC enW g.2)[0 + Int.toNat (↑i : Int) * 3]?) (some (Value.string (cellS (gC enW g.2) (0 + Int.toNat (↑i : Int) * 3))))); (br (decide ((↑i : Int) < Int.ofNat
  (List.length g.1))) (br (decide ((0 : Int) <= (↑i : Int) /\ (↑i : Int) < (↑(List.length g.1) : Int))) (z8 /\ (z6 /\ (z4 /\ (br (decide ((0 : Int) <= (↑i : Int) /\ (↑i :
  Int) < (↑(List.length g.2) : Int))) (z9 /\ (z7 /\ (z5 /\ (z8 /\ (z6 /\ (z4 /\ ((Value.agg z2 = Value.agg z2) /\ (z9 /\ (z7 /\ (z5 /\ ((Value.agg z3 = Value.agg z3) /\ (br
  (!(cellS (gC enW g.1) (0 + Int.toNat (↑i : Int) * 3) == cellS (gC enW g.2) (0 + Int.toNat (↑i : Int) * 3) && (cellS (gC enW g.1) (0 + Int.toNat (↑i : Int) * 3 + 1) ==
  cellS (gC enW g.2) (0 + Int.toNat (↑i : Int) * 3 + 1) && true) && (cellI (gC enW g.1) (0 + Int.toNat (↑i : Int) * 3 + 1 + 1) == cellI (gC enW g.2) (0 + Int.toNat (↑i :
  Int) * 3 + 1 + 1) && true))) (∃ y : Unit, ((g.1 ≠ g.2) /\ ((false = false) /\ z1))) (∃ j : Nat, ((Inv j) /\ ((m j < m i) /\ ((0 = 0) /\ ((List.length g.1 = List.length
  g.1) /\ ((0 = 0) /\ ((List.length g.2 = List.length g.2) /\ (((↑j : Int) = IntKind.wrap IntKind.i64 ((↑i : Int) + (1 : Int))) /\ z1)))))))))))))))))))) False)))) False) (∃
  y : Unit, ((Eq (α := List Wr) (g.1) (g.2)) /\ z1))) := by kernel_rfl
theorem same_vc (a b : List Wr) (v : Bool) : mcall tk.E0 mSame 60 11 [.slice (some ⟨0, 0, none⟩) a.length 3, .slice (some ⟨1, 0, none⟩) b.length 3] ⟨mkR (nums 0 [gRo enW a, gRo enW b]), 2⟩ (retIs 2 (.bool v) [gRo enW a, gRo enW b]) =
  (br (Int.ofNat (List.length a) != Int.ofNat (List.length b)) ((v = false) /\ ((Eq (α := List Value) (gC enW a) (gC enW a)) /\ ((Plain (gC enW a)) /\ ((Eq (α := List Value)
  (gC enW b) (gC enW b)) /\ ((Plain (gC enW b)) /\ True))))) (∃ g : GSame, ((List.length g.1 = List.length g.2 /\ List.length g.1 <= 9223372036854775807) /\ ((0 = 0) /\
  ((List.length g.1 = List.length a) /\ ((0 = 0) /\ ((List.length g.2 = List.length b) /\ (((0 : Int) = (0 : Int)) /\ ((Eq (α := List Value) (gC enW g.1) (gC enW a)) /\
  ((Plain (gC enW g.1)) /\ ((Eq (α := List Value) (gC enW g.2) (gC enW b)) /\ ((Plain (gC enW g.2)) /\ (∀ (side : Bool), (br (side) (∀ (y : Unit), ((g.1 = g.2) → ((v = true)
  /\ ((Eq (α := List Value) (gC enW a) (gC enW g.1)) /\ ((Plain (gC enW a)) /\ ((Eq (α := List Value) (gC enW b) (gC enW g.2)) /\ ((Plain (gC enW b)) /\ True))))))) (∀ (y :
  Unit), ((g.1 ≠ g.2) → ((v = false) /\ ((Eq (α := List Value) (gC enW a) (gC enW g.1)) /\ ((Plain (gC enW a)) /\ ((Eq (α := List Value) (gC enW b) (gC enW g.2)) /\ ((Plain
  (gC enW b)) /\ True))))))))))))))))))))) := by kernel_rfl
theorem wK (w : Wr) : (enW w).length = 3 := rfl
theorem wGet (l : List Wr) (i : Nat) (h : i < l.length) : (gC enW l)[i * 3]? = some (.string (bs l[i].f.n)) ∧ (gC enW l)[i * 3 + 1]? = some (.string (bs l[i].f.v)) ∧ (gC enW l)[i * 3 + 1 + 1]? = some (.int .i64 l[i].h) ∧ cellS (gC enW l) (i * 3) = bs l[i].f.n ∧ cellS (gC enW l) (i * 3 + 1) = bs l[i].f.v ∧ cellI (gC enW l) (i * 3 + 1 + 1) = l[i].h := by
  have h0 := gC_get wK l i 0 h (by omega)
  have h1 := gC_get wK l i 1 h (by omega)
  have h2 := gC_get wK l i 2 h (by omega)
  refine ⟨h0, h1, h2, ?_, ?_, ?_⟩
  · unfold cellS; rw [show (gC enW l)[i * 3]? = _ from h0]; rfl
  · unfold cellS; rw [h1]; rfl
  · unfold cellI; rw [show (gC enW l)[i * 3 + 1 + 1]? = _ from h2]; rfl
theorem dSe_mk (l : List Wr) (a : Bool) (o : Ob) : dSe ⟨gC enW l, a, o⟩ = l := decW_gC l
theorem bs_beq (a b : List UInt8) : (bs a == bs b) = decide (a = b) := by
  have e : (bs a == bs b) = (a.toArray == b.toArray) := rfl
  rw [e]
  by_cases h : a = b
  · subst h; simp
  · have : a.toArray ≠ b.toArray := fun e => h (by simpa using e)
    simp [h]
theorem seqF {a b : Wr} (h : ((bs a.f.n == bs b.f.n && (bs a.f.v == bs b.f.v && true)) && (a.h == b.h && true)) = true) : a = b := by
  rw [bs_beq, bs_beq] at h
  obtain ⟨⟨x, y⟩, p⟩ := a; obtain ⟨⟨z, w⟩, q⟩ := b
  simp at h
  obtain ⟨⟨h1, h2⟩, h3⟩ := h
  subst h1; subst h2; subst h3; rfl
theorem take_succ {α : Type} {l : List α} {i : Nat} (h : i < l.length) : l.take (i + 1) = l.take i ++ [l[i]] := List.take_succ_eq_append_getElem h
theorem sameSe_yes {a b : List Wr} (h : a = b) : sameSe a b = true := by unfold sameSe; simp [h]
theorem sameSe_no {a b : List Wr} (h : a ≠ b) : sameSe a b = false := by unfold sameSe; simp [h]
def invSame (g : GSame) (i : Nat) : Prop := i ≤ g.a.length ∧ g.a.take i = g.b.take i
theorem same_piece : PieceOk tk.E0 2 (11, pSame, specSame) := by
  refine piece_loop tk.mixed (calls_envN _) (lok_envN _) lm_none (n := 60) (by kernel_rfl) (fun _ => 0) invSame (fun g i => g.a.length - i) (sl := slSame) (rl := fun g _ => rlSame g) (fun g _ => ⟨by omega, rfl⟩) (fun g i hg hi => ?_)
  obtain ⟨g1, g2⟩ := hg
  unfold maxLen at g2
  refine (same_round g i _ _).mpr ?_
  simp only [ofNat_eq, toNat_cast, Nat.zero_add, Nat.add_zero, Nat.mul_one, List.drop_zero, bCells_len, bCells_drop, bCells_take, bCells_app, bCells_one, bCells_plain, List.length_replicate, List.length_append, List.length_take, List.length_drop, List.take_length, and_true, true_and, and_self, decide_true, List.length_nil, List.length_cons, Nat.sub_zero, dB_mk, dB_ro, List.take_zero, plW]
  refine br_if (fun h => br_dec (by omega) ?_) (fun h => ?_)
  · have h1 : i < g.a.length := by omega
    have h2 : i < g.b.length := by omega
    obtain ⟨c1, c2, c5, c3, c4, c6⟩ := wGet g.a i h1
    obtain ⟨d1, d2, d5, d3, d4, d6⟩ := wGet g.b i h2
    simp only [c1, c2, c3, c4, c5, c6, d1, d2, d3, d4, d5, d6, true_and]
    refine br_dec (by omega) (br_intro (fun h3 => ⟨(), fun e => ?_⟩) (fun h3 => ?_))
    · have e' : g.a[i] = g.b[i] := by simp only [e]
      rw [e', bs_beq, bs_beq] at h3; simp at h3
    · have h5 : g.a[i] = g.b[i] := seqF (by simpa only [Bool.not_eq_false'] using h3)
      refine ⟨i + 1, ⟨by omega, ?_⟩, by omega, (i64_succ (by omega)).symm⟩
      rw [take_succ h1, take_succ h2, hi.2, h5]
  · refine ⟨(), ?_⟩
    have := hi.2
    rw [List.take_of_length_le (by omega), List.take_of_length_le (by omega)] at this
    exact this
theorem same_con (a b : List Wr) (ha : a.length ≤ maxLen) : Con Try.prog 11 [.slice (some ⟨0, 0, none⟩) a.length 3, .slice (some ⟨1, 0, none⟩) b.length 3] [gRo enW a, gRo enW b] (.bool (sameSe a b)) [gRo enW a, gRo enW b] := by
  refine con_vc (E := tk.E0) tk.mixed (calls_envN _) (lok_envN _) (M := mSame) (lm_one same_piece) (same_vc a b _) ?_
  simp only [ofNat_eq, toNat_cast, Nat.zero_add, Nat.add_zero, Nat.mul_one, List.drop_zero, bCells_len, bCells_drop, bCells_take, bCells_app, bCells_one, bCells_plain, List.length_replicate, List.length_append, List.length_take, List.length_drop, List.take_length, and_true, true_and, and_self, decide_true, List.length_nil, List.length_cons, Nat.sub_zero, dB_mk, dB_ro, List.take_zero, plW]
  refine br_intro (fun h => ?_) (fun h => ?_)
  · refine sameSe_no fun e => ?_
    rw [e] at h; simp at h
  · have h : a.length = b.length := by
      have : (a.length : Int) = b.length := by simpa using h
      omega
    refine ⟨⟨a, b⟩, ⟨h, ha⟩, rfl, rfl, rfl, rfl, br_side (fun _ e => ?_) (fun _ e => ?_)⟩
    · exact ⟨sameSe_yes e, rfl, rfl⟩
    · exact ⟨sameSe_no e, rfl, rfl⟩
theorem saW_mk (x y : List Wr) (b c : Bool) (o p : Ob) : saW ⟨gC enW x, b, o⟩ ⟨gC enW y, c, p⟩ = sameSe x y := by unfold saW; rw [sealV_eq]; simp only [dSe_mk]
theorem eSaW_ok : EntOk Try.prog eSaW := entC_ok (by
  intro a rows p v news h hp
  split at h <;> simp only [Option.some.injEq, Prod.mk.injEq, reduceCtorEq] at h
  obtain ⟨rfl, rfl, rfl⟩ := h
  obtain ⟨⟨x, rfl, rfl⟩, ⟨y, rfl, rfl⟩, hl⟩ := hp
  simp only [gRo, saW_mk, List.append_nil]
  exact same_con x y hl)
end Go.Proofs.Ytellbmbklfbbfaa.wr
