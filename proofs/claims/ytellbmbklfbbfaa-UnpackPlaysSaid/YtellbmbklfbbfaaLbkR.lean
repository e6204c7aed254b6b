/- Lists of bytes copied with room behind, held against their copies. -/
import Derived.Test.YtellbmbklfbbfaaSz9
import Derived.Test.YtellbmbklfbbfaaRows
import Derived.Test.YtellbmbklfbbfaaLbkS
set_option maxRecDepth 20000
set_option linter.unusedSimpArgs false
set_option linter.unusedVariables false
namespace Go.Proofs.Ytellbmbklfbbfaa.bk
open Go Go.Ev Go.Sy Go.RowKit
def pRoomy : List Nat := [0, 1, 0, 1, 1, 1]
structure GRoomy where
  l : List UInt8
  m : UInt8
def slRoomy (g : GRoomy) (i : Nat) : List (Nat × Value) := [(1, .int .u8 g.m.toNat), (5, slc 1 (g.l.length + 80)), (6, .int .i64 i)]
def rlRoomy (g : GRoomy) (i : Nat) : List (Nat × Row) := [(0, bRo g.l), (1, bOwn (g.l ++ (List.replicate (i - g.l.length) g.m ++ List.replicate (80 + g.l.length - i) 0)))]
def wsRoomy (g : GRoomy) : List (Gate Unit) := [⟨.exit 0, fun _ => True, fun _ => [(5, slc 1 (g.l.length + 80))], fun _ => [(0, bRo g.l), (1, bOwn (g.l ++ List.replicate 80 g.m))], 2⟩]
def specRoomy : Sy.Spec := specOf 1 2 27 (fun g : GRoomy => g.l.length ≤ 16777136) (fun g => slRoomy g g.l.length) (fun g => rlRoomy g g.l.length) wsRoomy
def mRoomy := mOf [(14, pRoomy, specRoomy)]
def pIntact : List Nat := [0, 1, 0, 1, 1]
def cBook : FuncId → List Value → List Row → Option (Prop × Value × List Row)
  | 29, [.slice (some ⟨0, 0, none⟩) n 1, .slice (some ⟨1, 0, none⟩) m 1], [r0, r1] => some (IsB r0 n ∧ IsB r1 m ∧ n ≤ maxLen, .bool (decide (dB r0 = dB r1)), [])
  | _, _, _ => none
noncomputable abbrev E1 : Env := envC Try.prog cBook (fun f => Nat.beq f 29)
structure GInt where
  a : List UInt8
  b : List UInt8
  m : UInt8
def slInt (g : GInt) (i : Nat) : List (Nat × Value) := [(0, slc 0 g.a.length), (2, .int .u8 g.m.toNat), (7, .int .i64 i)]
def rlInt (g : GInt) : List (Nat × Row) := [(0, bRo g.a), (1, bRo g.b)]
def restIs (g : GInt) (i : Nat) : Bool := (g.a.drop i).all (fun x => x == g.m)
def wsInt (g : GInt) : List (Gate Unit) := [⟨.exit 0, fun _ => restIs g g.b.length = true, fun _ => [], fun _ => rlInt g, 2⟩, ⟨.ret, fun _ => restIs g g.b.length = false, fun _ => [(6, .bool false)], fun _ => rlInt g, 2⟩]
def specInt : Sy.Spec := specOf 2 2 37 (fun g : GInt => g.a.length ≤ maxLen ∧ g.b.length ≤ g.a.length) (fun g => slInt g g.b.length) (fun g => rlInt g) wsInt
def mInt := mOf [(17, pIntact, specInt)]
theorem roomy_round (g : GRoomy) (i : Nat) (Inv : Nat → Prop) (m : Nat → Nat) : mev E0 noM 60 14 (0 :: pRoomy) false (codeOf Try.prog 14 (0 :: pRoomy)) ⟨mkOv (slRoomy g i), 27, []⟩ none ⟨mkR (rlRoomy g i), 2⟩ (roundK 1 2 27 Inv m (slRoomy g) (rlRoomy g) (wsRoomy g) i) =
  let z1 := (bCells (g.1 ++ [g.2, g.2, g.2, g.2, g.2, g.2, g.2, g.2, g.2, g.2, g.2, g.2, g.2, g.2, g.2, g.2, g.2, g.2, g.2, g.2, g.2, g.2, g.2, g.2, g.2, g.2, g.2, g.2, g.2,
  g.2, g.2, g.2, g.2, g.2, g.2, g.2, g.2, g.2, g.2, g.2, g.2, g.2, g.2, g.2, g.2, g.2, g.2, g.2, g.2, g.2, g.2, g.2, g.2, g.2, g.2, g.2, g.2, g.2, g.2, g.2, g.2, g.2, g.2,
  g.2, g.2, g.2, g.2, g.2, g.2, g.2, g.2, g.2, g.2, g.2, g.2, g.2, g.2, g.2, g.2, g.2])); let z2 := (bCells (g.1 ++ (List.replicate (i - List.length g.1) g.2 ++
  List.replicate (80 + List.length g.1 - i) 0))); let z3 := (Eq (α := List Value) (bCells g.1) (bCells g.1)); let z4 := (List.length g.1 + 80 = List.length g.1 + 80); (br
  (decide ((↑i : Int) < Int.ofNat (List.length g.1 + 80))) (br (decide ((0 : Int) <= (↑i : Int) /\ (↑i : Int) < (↑(List.length g.1 + 80) : Int))) (br (decide (0 + Int.toNat
  (↑i : Int) * 1 + 1 <= List.length z2)) (∃ j : Nat, ((Inv j) /\ ((m j < m i) /\ (((↑(UInt8.toNat g.2) : Int) = (↑(UInt8.toNat g.2) : Int)) /\ ((0 = 0) /\ (z4 /\ (((↑j :
  Int) = IntKind.wrap IntKind.i64 ((↑i : Int) + (1 : Int))) /\ (z3 /\ ((Plain (bCells g.1)) /\ ((Eq (α := List Value) (bCells (g.1 ++ (List.replicate (j - List.length g.1)
  g.2 ++ List.replicate (80 + List.length g.1 - j) 0))) (ovr z2 (0 + Int.toNat (↑i : Int) * 1) [Value.int IntKind.u8 (↑(UInt8.toNat g.2) : Int)])) /\ ((Plain (bCells (g.1 ++
  (List.replicate (j - List.length g.1) g.2 ++ List.replicate (80 + List.length g.1 - j) 0)))) /\ True))))))))))) False) False) (∃ y : Unit, ((True) /\ ((0 = 0) /\ (z4 /\
  (z3 /\ ((Plain (bCells g.1)) /\ ((Eq (α := List Value) z1 z2) /\ ((Plain z1) /\ True))))))))) := by kernel_rfl
theorem roomy_vc (l : List UInt8) (m : UInt8) : mcall E0 mRoomy 60 14 [slc 0 l.length, .int .u8 m.toNat] ⟨mkR (nums 0 [bRo l]), 1⟩ (retIs 1 (slc 1 (l.length + 80)) [bRo l, bOwn (l ++ List.replicate 80 m)]) =
  let z1 := (List.take (Nat.min (List.length l) (Int.toNat (IntKind.wrap IntKind.i64 (Int.ofNat (List.length l) + (80 : Int)))) * 1) (List.take (List.length l * 1)
  (List.drop 0 (bCells l)))); let z2 := (bCells (l ++ [m, m, m, m, m, m, m, m, m, m, m, m, m, m, m, m, m, m, m, m, m, m, m, m, m, m, m, m, m, m, m, m, m, m, m, m, m, m, m,
  m, m, m, m, m, m, m, m, m, m, m, m, m, m, m, m, m, m, m, m, m, m, m, m, m, m, m, m, m, m, m, m, m, m, m, m, m, m, m, m, m])); let z3 := (List.replicate (Int.toNat
  (IntKind.wrap IntKind.i64 (Int.ofNat (List.length l) + (80 : Int)))) (Value.int IntKind.u8 (0 : Int))); (br (decide ((0 : Int) <= IntKind.wrap IntKind.i64 (Int.ofNat
  (List.length l) + (80 : Int)) /\ IntKind.wrap IntKind.i64 (Int.ofNat (List.length l) + (80 : Int)) <= IntKind.wrap IntKind.i64 (Int.ofNat (List.length l) + (80 : Int)) /\
  IntKind.wrap IntKind.i64 (Int.ofNat (List.length l) + (80 : Int)) <= (16777216 : Int))) (br (decide (0 + List.length l * 1 <= List.length (bCells l))) (br (decide (0 +
  List.length z1 <= List.length z3)) (br (allOne z1) (∃ g : GRoomy, ((List.length g.1 <= 16777136) /\ (((↑(UInt8.toNat g.2) : Int) = (↑(UInt8.toNat m) : Int)) /\ ((0 = 0) /\
  ((List.length g.1 + 80 = Int.toNat (IntKind.wrap IntKind.i64 (Int.ofNat (List.length l) + (80 : Int)))) /\ (((↑(List.length g.1) : Int) = Int.ofNat (List.length l)) /\
  ((Eq (α := List Value) (bCells g.1) (bCells l)) /\ ((Plain (bCells g.1)) /\ ((Eq (α := List Value) (bCells (g.1 ++ (List.replicate (List.length g.1 - List.length g.1) g.2
  ++ List.replicate (80 + List.length g.1 - List.length g.1) 0))) (ovr z3 0 z1)) /\ ((Plain (bCells (g.1 ++ (List.replicate (List.length g.1 - List.length g.1) g.2 ++
  List.replicate (80 + List.length g.1 - List.length g.1) 0)))) /\ (∀ (y : Unit), ((True) → ((0 = 0) /\ ((List.length l + 80 = List.length g.1 + 80) /\ ((Eq (α := List
  Value) (bCells l) (bCells g.1)) /\ ((Plain (bCells l)) /\ ((Eq (α := List Value) z2 (bCells (g.1 ++ [g.2, g.2, g.2, g.2, g.2, g.2, g.2, g.2, g.2, g.2, g.2, g.2, g.2, g.2,
  g.2, g.2, g.2, g.2, g.2, g.2, g.2, g.2, g.2, g.2, g.2, g.2, g.2, g.2, g.2, g.2, g.2, g.2, g.2, g.2, g.2, g.2, g.2, g.2, g.2, g.2, g.2, g.2, g.2, g.2, g.2, g.2, g.2, g.2,
  g.2, g.2, g.2, g.2, g.2, g.2, g.2, g.2, g.2, g.2, g.2, g.2, g.2, g.2, g.2, g.2, g.2, g.2, g.2, g.2, g.2, g.2, g.2, g.2, g.2, g.2, g.2, g.2, g.2, g.2, g.2, g.2]))) /\
  ((Plain z2) /\ True)))))))))))))))))) False) False) False) False) := by kernel_rfl
theorem int_round (g : GInt) (i : Nat) (Inv : Nat → Prop) (m : Nat → Nat) : mev E1 noM 60 17 (0 :: pIntact) false (codeOf Try.prog 17 (0 :: pIntact)) ⟨mkOv (slInt g i), 37, []⟩ none ⟨mkR (rlInt g), 2⟩ (roundK 2 2 37 Inv m (slInt g) (fun _ => rlInt g) (wsInt g) i) =
  let z1 := ((Eq (α := List Value) (bCells g.1) (bCells g.1)) /\ ((Plain (bCells g.1)) /\ ((Eq (α := List Value) (bCells g.2) (bCells g.2)) /\ ((Plain (bCells g.2)) /\
  True)))); (br (decide ((↑i : Int) < Int.ofNat (List.length g.1))) (br (decide ((0 : Int) <= (↑i : Int) /\ (↑i : Int) < (↑(List.length g.1) : Int))) ((Eq (α := Option
  Value) ((bCells g.1)[0 + Int.toNat (↑i : Int) * 1]?) (some (Value.int IntKind.u8 (cellI (bCells g.1) (0 + Int.toNat (↑i : Int) * 1))))) /\ (br (cellI (bCells g.1) (0 +
  Int.toNat (↑i : Int) * 1) != (↑(UInt8.toNat g.3) : Int)) (∃ y : Unit, ((restIs g (List.length g.2) = false) /\ ((false = false) /\ z1))) (∃ j : Nat, ((Inv j) /\ ((m j < m
  i) /\ ((0 = 0) /\ ((List.length g.1 = List.length g.1) /\ (((↑(UInt8.toNat g.3) : Int) = (↑(UInt8.toNat g.3) : Int)) /\ (((↑j : Int) = IntKind.wrap IntKind.i64 ((↑i : Int)
  + (1 : Int))) /\ z1))))))))) False) (∃ y : Unit, ((restIs g (List.length g.2) = true) /\ z1))) := by kernel_rfl
theorem int_vc (a b : List UInt8) (m : UInt8) (v : Bool) : mcall E1 mInt 60 17 [slc 0 a.length, slc 1 b.length, .int .u8 m.toNat] ⟨mkR (nums 0 [bRo a, bRo b]), 2⟩ (retIs 2 (.bool v) [bRo a, bRo b]) =
  let z1 := (List.take ((Int.toNat (Int.ofNat (List.length b)) - 0) * 1) (List.drop 0 (bCells a))); let z2 := ((v = false) /\ ((Eq (α := List Value) (bCells a) (bCells a))
  /\ ((Plain (bCells a)) /\ ((Eq (α := List Value) (bCells b) (bCells b)) /\ ((Plain (bCells b)) /\ True))))); let z3 := (List.take (List.length b * 1) (List.drop 0 (bCells
  b))); (br (Int.ofNat (List.length a) != IntKind.wrap IntKind.i64 (Int.ofNat (List.length b) + (80 : Int))) z2 (br (decide ((0 : Int) <= (↑0 : Int) /\ (0 : Int) <=
  Int.ofNat (List.length b) /\ Int.ofNat (List.length b) <= (↑(List.length a) : Int))) (((((0 + (Int.toNat (Int.ofNat (List.length b)) - 0) * 1 <= List.length (bCells a) /\
  Plain z1) /\ ((0 + List.length b * 1 <= List.length (bCells b) /\ Plain z3) /\ True)) /\ (True /\ (IsB (Row.mk z1 true (Ob.cells true)) (Int.toNat (Int.ofNat (List.length
  b)) - 0) /\ (IsB (Row.mk z3 true (Ob.cells true)) (List.length b) /\ Int.toNat (Int.ofNat (List.length b)) - 0 <= 9223372036854775807))))) /\ (br (!decide (dB (Row.mk z1
  true (Ob.cells true)) = dB (Row.mk z3 true (Ob.cells true)))) z2 (∃ g : GInt, ((List.length g.1 <= 9223372036854775807 /\ List.length g.2 <= List.length g.1) /\ ((0 = 0)
  /\ ((List.length g.1 = List.length a) /\ (((↑(UInt8.toNat g.3) : Int) = (↑(UInt8.toNat m) : Int)) /\ (((↑(List.length g.2) : Int) = Int.ofNat (List.length b)) /\ ((Eq (α
  := List Value) (bCells g.1) (bCells a)) /\ ((Plain (bCells g.1)) /\ ((Eq (α := List Value) (bCells g.2) (bCells b)) /\ ((Plain (bCells g.2)) /\ (∀ (side : Bool), (br
  (side) (∀ (y : Unit), ((restIs g (List.length g.2) = true) → ((v = true) /\ ((Eq (α := List Value) (bCells a) (bCells g.1)) /\ ((Plain (bCells a)) /\ ((Eq (α := List
  Value) (bCells b) (bCells g.2)) /\ ((Plain (bCells b)) /\ True))))))) (∀ (y : Unit), ((restIs g (List.length g.2) = false) → ((v = false) /\ ((Eq (α := List Value) (bCells
  a) (bCells g.1)) /\ ((Plain (bCells a)) /\ ((Eq (α := List Value) (bCells b) (bCells g.2)) /\ ((Plain (bCells b)) /\ True))))))))))))))))))))) False)) := by kernel_rfl
def invRoomy (g : GRoomy) (i : Nat) : Prop := g.l.length ≤ i ∧ i ≤ g.l.length + 80
def msRoomy (g : GRoomy) (i : Nat) : Nat := g.l.length + 80 - i
theorem roomy_piece : PieceOk E0 1 (14, pRoomy, specRoomy) := by
  refine piece_loop mixed (calls_envN _) (lok_envN _) lm_none (n := 60) (by kernel_rfl) (fun g : GRoomy => g.l.length) invRoomy msRoomy (sl := slRoomy) (rl := rlRoomy) (fun g _ => ⟨by omega, by omega⟩) (fun g i hg hi => ?_)
  have key := roomy_round g i (invRoomy g) (msRoomy g)
  refine key.mpr ?_
  unfold invRoomy msRoomy at *
  simp only [ofNat_eq, toNat_cast, Nat.zero_add, Nat.add_zero, Nat.mul_one, List.drop_zero, bCells_len, bCells_drop, bCells_take, bCells_app, bCells_one, bCells_plain, List.length_replicate, List.length_append, List.length_take, List.length_drop, List.take_length, and_true, true_and, and_self, decide_true, List.length_nil, List.length_cons, Nat.sub_zero, dB_mk, dB_ro, List.take_zero, cells_int, List.length_singleton]
  refine br_if (fun h => ?_) (fun h => ?_)
  · have h : i < g.l.length + 80 := by omega
    refine br_dec ⟨by omega, by omega⟩ (br_dec (by omega) ?_)
    refine ⟨i + 1, ⟨by omega, by omega⟩, by omega, ?_⟩
    simp only [i64_succ (show i < 9223372036854775807 by omega), ofNat_eq, toNat_cast, Nat.zero_add, Nat.add_zero, Nat.mul_one, List.drop_zero, bCells_len, bCells_drop, bCells_take, bCells_app, bCells_one, bCells_plain, List.length_replicate, List.length_append, List.length_take, List.length_drop, List.take_length, and_true, true_and, and_self, decide_true, List.length_nil, List.length_cons, Nat.sub_zero, dB_mk, dB_ro, List.take_zero, bVal_eq, bCells_sing, bCells_ovr]
    refine congrArg bCells ?_
    rw [show i + 1 - g.l.length = (i - g.l.length) + 1 by omega, show 80 + g.l.length - i = (80 + g.l.length - (i + 1)) + 1 by omega, List.replicate_succ', List.replicate_succ]
    have e := ovr_mid (x := g.l ++ List.replicate (i - g.l.length) g.m) (z := List.replicate (80 + g.l.length - (i + 1)) 0) (a := 0) (b := g.m) (i := i) (by simp; omega)
    simp only [List.append_assoc, List.cons_append, List.nil_append] at e ⊢
    exact e.symm
  · refine ⟨(), ?_⟩
    rw [show i - g.l.length = 80 by omega, show 80 + g.l.length - i = 0 by omega]
    simp
theorem roomy_con (l : List UInt8) (m : UInt8) (h : l.length ≤ 16777136) : Con Try.prog 14 [slc 0 l.length, .int .u8 m.toNat] [bRo l] (slc 1 (l.length + 80)) [bRo l, bOwn (l ++ List.replicate 80 m)] := by
  refine con_vc (E := E0) mixed (calls_envN _) (lok_envN _) (M := mRoomy) (lm_one roomy_piece) (roomy_vc l m) ?_
  have w : IntKind.i64.wrap ((l.length : Int) + 80) = ((l.length + 80 : Nat) : Int) := by rw [wr64_id (by unfold I64; omega)]; omega
  have mn : Nat.min l.length (l.length + 80) = l.length := Nat.min_eq_left (by omega)
  simp only [ofNat_eq, toNat_cast, Nat.zero_add, Nat.add_zero, Nat.mul_one, List.drop_zero, bCells_len, bCells_drop, bCells_take, bCells_app, bCells_one, bCells_plain, List.length_replicate, List.length_append, List.length_take, List.length_drop, List.take_length, and_true, true_and, and_self, decide_true, List.length_nil, List.length_cons, Nat.sub_zero, dB_mk, dB_ro, List.take_zero, w, mn, bCells_rep, bCells_ovr]
  refine br_dec ⟨by omega, by omega, by omega⟩ (br_dec (by omega) (br_dec (by omega) (br_b rfl ⟨⟨l, m⟩, h, ?_⟩)))
  simp only [ofNat_eq, toNat_cast, Nat.zero_add, Nat.add_zero, Nat.mul_one, List.drop_zero, bCells_len, bCells_drop, bCells_take, bCells_app, bCells_one, bCells_plain, List.length_replicate, List.length_append, List.length_take, List.length_drop, List.take_length, and_true, true_and, and_self, decide_true, List.length_nil, List.length_cons, Nat.sub_zero, dB_mk, dB_ro, List.take_zero, Nat.sub_self, List.replicate_zero, List.nil_append]
  simp
theorem cBook_ok : ∀ f a rows p v news, cBook f a rows = some (p, v, news) → p → Con Try.prog f a rows v (rows ++ news) := by
  intro f a rows p v news h hp
  unfold cBook at h
  split at h
  · simp only [Option.some.injEq, Prod.mk.injEq] at h
    obtain ⟨rfl, rfl, rfl⟩ := h
    obtain ⟨⟨x, rfl, rfl⟩, ⟨y, rfl, rfl⟩, hl⟩ := hp
    simp only [dB_ro, List.append_nil]
    exact same_con x y hl
  · simp at h
theorem callsE1 : CallsOk E1.P (oOf E1) := calls_envC cBook_ok
def invInt (g : GInt) (i : Nat) : Prop := g.b.length ≤ i ∧ i ≤ g.a.length ∧ restIs g g.b.length = restIs g i
def msInt (g : GInt) (i : Nat) : Nat := g.a.length - i
theorem int_piece : PieceOk E1 2 (17, pIntact, specInt) := by
  refine piece_loop mixed callsE1 (lok_envC _ _ _) lm_none (n := 60) (by kernel_rfl) (fun g : GInt => g.b.length) invInt msInt (sl := slInt) (rl := fun g _ => rlInt g) (fun g hg => ⟨by omega, hg.2, rfl⟩) (fun g i hg hi => ?_)
  refine (int_round g i _ _).mpr ?_
  obtain ⟨g1, g2⟩ := hg
  unfold maxLen at g1
  obtain ⟨h1, h2, h3⟩ := hi
  simp only [ofNat_eq, toNat_cast, Nat.zero_add, Nat.add_zero, Nat.mul_one, List.drop_zero, bCells_len, bCells_drop, bCells_take, bCells_app, bCells_one, bCells_plain, List.length_replicate, List.length_append, List.length_take, List.length_drop, List.take_length, and_true, true_and, and_self, decide_true, List.length_nil, List.length_cons, Nat.sub_zero, dB_mk, dB_ro, List.take_zero]
  refine br_if (fun h => ?_) (fun h => ?_)
  · have h : i < g.a.length := by omega
    refine br_dec (in_nat h) ?_
    rw [bCells_get h, bCells_cell h]
    have hd : g.a.drop i = g.a.getD i 0 :: g.a.drop (i + 1) := by
      rw [List.drop_eq_getElem_cons h]; simp [List.getD, List.getElem?_eq_getElem h]
    have hr : restIs g i = ((g.a.getD i 0 == g.m) && restIs g (i + 1)) := by unfold restIs; rw [hd, List.all_cons]
    refine ⟨rfl, br_intro (fun h4 => ?_) (fun h4 => ?_)⟩
    · refine ⟨(), ?_⟩
      have : g.a.getD i 0 ≠ g.m := u8_ne (by simpa using h4)
      rw [h3, hr, beq_eq_false_iff_ne.2 this]; rfl
    · have : g.a.getD i 0 = g.m := u8_eq (by simpa using h4)
      refine ⟨i + 1, ⟨by omega, by omega, ?_⟩, by unfold msInt; omega, by rw [i64_succ (by omega)]⟩
      rw [h3, hr, this]; simp
  · refine ⟨(), ?_⟩
    rw [h3]; unfold restIs
    rw [List.drop_eq_nil_of_le (by omega)]; rfl
theorem all_rep : ∀ (l : List UInt8) (m : UInt8), l.all (fun x => x == m) = true → l = List.replicate l.length m := by
  intro l m
  induction l with
  | nil => intro _; rfl
  | cons x l ih =>
    intro h
    simp only [List.all_cons, Bool.and_eq_true, beq_iff_eq] at h
    rw [List.length_cons, List.replicate_succ, ← ih h.2, h.1]
theorem int_con (a b : List UInt8) (m : UInt8) (ha : a.length ≤ maxLen) (hb : b.length ≤ 9223372036854775000) : Con Try.prog 17 [slc 0 a.length, slc 1 b.length, .int .u8 m.toNat] [bRo a, bRo b] (.bool (decide (a = b ++ List.replicate 80 m))) [bRo a, bRo b] := by
  refine con_vc (E := E1) mixed callsE1 (lok_envC _ _ _) (M := mInt) (lm_one int_piece) (int_vc a b m _) ?_
  have w : IntKind.i64.wrap ((b.length : Int) + 80) = ((b.length + 80 : Nat) : Int) := by rw [wr64_id (by unfold I64; omega)]; omega
  simp only [ofNat_eq, toNat_cast, Nat.zero_add, Nat.add_zero, Nat.mul_one, List.drop_zero, bCells_len, bCells_drop, bCells_take, bCells_app, bCells_one, bCells_plain, List.length_replicate, List.length_append, List.length_take, List.length_drop, List.take_length, and_true, true_and, and_self, decide_true, List.length_nil, List.length_cons, Nat.sub_zero, dB_mk, dB_ro, List.take_zero, w]
  refine br_intro (fun h => ?_) (fun h => ?_)
  · refine decide_eq_false fun e => ?_
    rw [e] at h; simp at h
  · have h : a.length = b.length + 80 := by
      have : (a.length : Int) = ((b.length + 80 : Nat) : Int) := by simpa using h
      omega
    refine br_dec ⟨by omega, by omega, by omega⟩ ⟨⟨⟨by omega, by omega⟩, isB_mk _ _ (by simp; omega), isB_mk _ _ rfl, by omega⟩, ?_⟩
    have hsplit : a = a.take b.length ++ a.drop b.length := (List.take_append_drop _ _).symm
    by_cases h5 : a.take b.length = b
    · rw [h5]
      refine br_nb (by simp) ⟨⟨a, b, m⟩, ⟨ha, by simp only; omega⟩, rfl, rfl, rfl, rfl, rfl, br_side (fun _ hr => ⟨decide_eq_true ?_, rfl, rfl⟩) (fun _ hr => ⟨decide_eq_false fun e => ?_, rfl, rfl⟩)⟩
      · have := all_rep (a.drop b.length) m hr
        rw [List.length_drop, show a.length - b.length = 80 by omega] at this
        rw [hsplit, h5, this]
      · unfold restIs at hr
        simp only at hr
        rw [e, List.drop_left] at hr
        simp at hr
    · refine br_b (by simpa using h5) (decide_eq_false fun e => h5 ?_)
      rw [e, List.take_left]
end Go.Proofs.Ytellbmbklfbbfaa.bk
