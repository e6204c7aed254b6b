/- The number at a place: Get, the program's and the document's own. -/
import Derived.Test.YtellbmbklfbbfaaSz9
import Derived.Test.YtellbmbklfbbfaaRows
import Derived.Test.YtellbmbklfbbfaaLbk0
set_option maxRecDepth 20000
set_option linter.unusedSimpArgs false
set_option linter.unusedVariables false
namespace Go.Proofs.Ytellbmbklfbbfaa.s3
open Go Go.Ev Go.Sy Go.RowKit Go.Proofs.Ytellbmbklfbbfaa.bk
def pGetP : List Nat := [0, 1, 0, 1, 1, 1, 1, 1, 1, 1]
def atB (b : List UInt8) (i : Nat) : Nat := (b.getD i 0).toNat
def getL (b : List UInt8) : Nat → Nat → Nat → Nat × Nat × Nat
  | 0, _, _ => (0, 0, 2)
  | r + 1, i, v =>
    if b.length ≤ i then (0, 0, 3) else if 2147483647 < v + atB b i % 128 * 2 ^ (7 * (4 - r)) then (0, 0, 2)
    else if atB b i < 128 then (v + atB b i % 128 * 2 ^ (7 * (4 - r)), i + 1, 0) else getL b r (i + 1) (v + atB b i % 128 * 2 ^ (7 * (4 - r)))
structure GGet where
  b : List UInt8
  i : Nat
  v : Nat
def slGetP (g : GGet) (s : Nat × Nat × Nat) : List (Nat × Value) := [(0, slc 0 g.b.length), (1, .int .i64 s.2.1), (10, .int .i64 s.2.2), (49, .int .i64 ((5 - s.1 : Nat) : Int))]
def rlGet (g : GGet) (_ : Nat × Nat × Nat) : List (Nat × Row) := [(0, bRo g.b)]
def gotL (g : GGet) : Nat × Nat × Nat := getL g.b 5 g.i g.v
def retL (g : GGet) : List (Nat × Value) := [(6, .int .i64 ((gotL g).1 : Nat)), (7, .int .i64 ((gotL g).2.1 : Nat)), (8, .int .i64 ((gotL g).2.2 : Nat))]
def wsGetP (g : GGet) : List (Gate Unit) := [⟨.exit 0, fun _ => gotL g = (0, 0, 2), fun _ => [], fun _ => [(0, bRo g.b)], 1⟩, ⟨.ret, fun _ => True, fun _ => retL g, fun _ => [(0, bRo g.b)], 1⟩]
def preGet (g : GGet) : Prop := g.b.length ≤ maxLen ∧ g.i ≤ g.b.length ∧ g.v ≤ 2147483647
def specGetP : Sy.Spec := specOf 1 1 80 preGet (fun g => slGetP g (5, g.i, g.v)) (fun g => rlGet g (5, g.i, g.v)) wsGetP
def mGetP := mOf [(44, pGetP, specGetP)]
def getOut (b : List UInt8) (i n : Int) : Nat × Nat × Nat :=
  if n < 1 ∨ 8 < n ∨ i < 0 ∨ (b.length : Int) < i then (0, 0, 1) else if i = b.length then (0, 0, 3)
  else if atB b i.toNat % 2 ^ n.toNat < 2 ^ n.toNat - 1 then (atB b i.toNat % 2 ^ n.toNat, i.toNat + 1, 0) else getL b 5 (i.toNat + 1) (2 ^ n.toNat - 1)
def tup (x : Nat × Nat × Nat) : Value := .tuple #[.int .i64 (x.1 : Nat), .int .i64 (x.2.1 : Nat), .int .i64 (x.2.2 : Nat)]
theorem getP_round (g : GGet) (i : Nat × Nat × Nat) (Inv : Nat × Nat × Nat → Prop) (m : Nat × Nat × Nat → Nat) : mev E0 noM 60 44 (0 :: pGetP) false (codeOf Try.prog 44 (0 :: pGetP)) ⟨mkOv (slGetP g i), 80, []⟩ none ⟨mkR (rlGet g i), 1⟩ (roundK 1 1 80 Inv m (slGetP g) (rlGet g) (wsGetP g) i) =
  let z1 := ((↑i.2.2 : Int) + ishl IntKind.i64 (IntKind.wrap IntKind.i64 (iand IntKind.u8 (cellI (bCells g.1) (0 + Int.toNat (↑i.2.1 : Int) * 1)) (127 : Int))) (IntKind.wrap
  IntKind.i64 ((7 : Int) * (↑(5 - i.1) : Int)))); let z2 := ((Eq (α := List Value) (bCells g.1) (bCells g.1)) /\ ((Plain (bCells g.1)) /\ True)); let z3 := (IntKind.wrap
  IntKind.i64 ((↑i.2.1 : Int) + (1 : Int)) - (1 : Int)); let z4 := (0 + Int.toNat (IntKind.wrap IntKind.i64 z3) * 1); (br (decide ((↑(5 - i.1) : Int) < (5 : Int))) (br
  ((↑i.2.1 : Int) == Int.ofNat (List.length g.1)) (∃ y : Unit, ((True) /\ (((↑(gotL g).1 : Int) = (0 : Int)) /\ (((↑(gotL g).2.1 : Int) = (0 : Int)) /\ (((↑(gotL g).2.2 :
  Int) = (3 : Int)) /\ z2))))) (br (decide ((0 : Int) <= (↑i.2.1 : Int) /\ (↑i.2.1 : Int) < (↑(List.length g.1) : Int))) ((Eq (α := Option Value) ((bCells g.1)[0 + Int.toNat
  (↑i.2.1 : Int) * 1]?) (some (Value.int IntKind.u8 (cellI (bCells g.1) (0 + Int.toNat (↑i.2.1 : Int) * 1))))) /\ (br (decide ((0 : Int) <= IntKind.wrap IntKind.i64 ((7 :
  Int) * (↑(5 - i.1) : Int)))) (br (decide (IntKind.wrap IntKind.i64 z1 > (2147483647 : Int))) (∃ y : Unit, ((True) /\ (((↑(gotL g).1 : Int) = (0 : Int)) /\ (((↑(gotL g).2.1
  : Int) = (0 : Int)) /\ (((↑(gotL g).2.2 : Int) = (2 : Int)) /\ z2))))) (br (decide ((0 : Int) <= IntKind.wrap IntKind.i64 z3 /\ IntKind.wrap IntKind.i64 z3 <
  (↑(List.length g.1) : Int))) ((Eq (α := Option Value) ((bCells g.1)[0 + Int.toNat (IntKind.wrap IntKind.i64 z3) * 1]?) (some (Value.int IntKind.u8 (cellI (bCells g.1)
  z4)))) /\ (br (decide (cellI (bCells g.1) z4 < (128 : Int))) (∃ y : Unit, ((True) /\ (((↑(gotL g).1 : Int) = IntKind.wrap IntKind.i64 z1) /\ (((↑(gotL g).2.1 : Int) =
  IntKind.wrap IntKind.i64 ((↑i.2.1 : Int) + (1 : Int))) /\ (((↑(gotL g).2.2 : Int) = (0 : Int)) /\ z2))))) (∃ j : Nat × Nat × Nat, ((Inv j) /\ ((m j < m i) /\ ((0 = 0) /\
  ((List.length g.1 = List.length g.1) /\ (((↑j.2.1 : Int) = IntKind.wrap IntKind.i64 ((↑i.2.1 : Int) + (1 : Int))) /\ (((↑j.2.2 : Int) = IntKind.wrap IntKind.i64 z1) /\
  (((↑(5 - j.1) : Int) = IntKind.wrap IntKind.i64 ((↑(5 - i.1) : Int) + (1 : Int))) /\ z2)))))))))) False)) False)) False)) (∃ y : Unit, ((gotL g = (0, 0, 2)) /\ z2))) := by kernel_rfl
theorem getP_vc (b : List UInt8) (i n : Int) (x : Nat × Nat × Nat) : mcall E0 mGetP 60 44 [slc 0 b.length, .int .i64 i, .int .i64 n] ⟨mkR (nums 0 [bRo b]), 1⟩ (retIs 1 (tup x) [bRo b]) =
  let z4 := ((Eq (α := List Value) (bCells b) (bCells b)) /\ ((Plain (bCells b)) /\ True)); let z1 := (((↑x.1 : Int) = (0 : Int)) /\ (((↑x.2.1 : Int) = (0 : Int)) /\
  (((↑x.2.2 : Int) = (1 : Int)) /\ z4))); let z2 := (IntKind.wrap IntKind.i64 (ishl IntKind.i64 (1 : Int) n - (1 : Int))); let z3 := (IntKind.wrap IntKind.i64 (cellI (bCells
  b) (0 + Int.toNat i * 1))); (br (decide (n < (1 : Int))) z1 (br (decide (n > (8 : Int))) z1 (br (decide (i < (0 : Int))) z1 (br (decide (i > Int.ofNat (List.length b))) z1
  (br (i == Int.ofNat (List.length b)) (((↑x.1 : Int) = (0 : Int)) /\ (((↑x.2.1 : Int) = (0 : Int)) /\ (((↑x.2.2 : Int) = (3 : Int)) /\ z4))) (br (decide ((0 : Int) <= n))
  (br (decide ((0 : Int) <= i /\ i < (↑(List.length b) : Int))) ((Eq (α := Option Value) ((bCells b)[0 + Int.toNat i * 1]?) (some (Value.int IntKind.u8 (cellI (bCells b) (0
  + Int.toNat i * 1))))) /\ (br (decide (iand IntKind.i64 z3 z2 < IntKind.wrap IntKind.i64 (ishl IntKind.i64 (1 : Int) n - (1 : Int)))) (((↑x.1 : Int) = iand IntKind.i64 z3
  z2) /\ (((↑x.2.1 : Int) = IntKind.wrap IntKind.i64 (i + (1 : Int))) /\ (((↑x.2.2 : Int) = (0 : Int)) /\ z4))) (∃ g : GGet, ((preGet g) /\ ((0 = 0) /\ ((List.length g.1 =
  List.length b) /\ (((↑g.2 : Int) = IntKind.wrap IntKind.i64 (i + (1 : Int))) /\ (((↑g.3 : Int) = iand IntKind.i64 z3 z2) /\ (((↑0 : Int) = (0 : Int)) /\ ((Eq (α := List
  Value) (bCells g.1) (bCells b)) /\ ((Plain (bCells g.1)) /\ (∀ (side : Bool), (br (side) (∀ (y : Unit), ((gotL g = (0, 0, 2)) → (((↑x.1 : Int) = (0 : Int)) /\ (((↑x.2.1 :
  Int) = (0 : Int)) /\ (((↑x.2.2 : Int) = (2 : Int)) /\ ((Eq (α := List Value) (bCells b) (bCells g.1)) /\ ((Plain (bCells b)) /\ True))))))) (∀ (y : Unit), ((True) →
  (((↑x.1 : Int) = (↑(gotL g).1 : Int)) /\ (((↑x.2.1 : Int) = (↑(gotL g).2.1 : Int)) /\ (((↑x.2.2 : Int) = (↑(gotL g).2.2 : Int)) /\ ((Eq (α := List Value) (bCells b)
  (bCells g.1)) /\ ((Plain (bCells b)) /\ True)))))))))))))))))))) False) False)))))) := by kernel_rfl
theorem sh1 (k : Nat) (h : k ≤ 8) : IntKind.i64.wrap (ishl .i64 1 (k : Int) - 1) = ((2 ^ k - 1 : Nat) : Int) := by
  have hp : 2 ^ k ≤ 2 ^ 8 := Nat.pow_le_pow_right (by omega) h
  have h1 : 1 ≤ 2 ^ k := Nat.one_le_two_pow
  rw [show (1 : Int) = ((1 : Nat) : Int) from rfl, ishl_nat (by omega) (by omega), Nat.one_mul, wr64_id (by unfold I64; omega)]
  omega
def invGet (g : GGet) (s : Nat × Nat × Nat) : Prop := s.1 ≤ 5 ∧ s.2.1 ≤ g.b.length ∧ s.2.2 ≤ 2147483647 ∧ getL g.b s.1 s.2.1 s.2.2 = gotL g
def msGet (_ : GGet) (s : Nat × Nat × Nat) : Nat := s.1
theorem atB_lt (b : List UInt8) (i : Nat) : atB b i < 256 := u8_lt _
theorem shl_at {c r : Nat} (hc : c < 256) (hr : r ≤ 4) : ishl .i64 ((c % 128 : Nat) : Int) (IntKind.i64.wrap (7 * ((4 - r : Nat) : Int))) = ((c % 128 * 2 ^ (7 * (4 - r)) : Nat) : Int) ∧ c % 128 * 2 ^ (7 * (4 - r)) ≤ 127 * 268435456 := by
  have hp : 2 ^ (7 * (4 - r)) ≤ 2 ^ 28 := Nat.pow_le_pow_right (by omega) (by omega)
  have hm : c % 128 * 2 ^ (7 * (4 - r)) ≤ 127 * 2 ^ 28 := Nat.mul_le_mul (by omega) hp
  refine ⟨?_, by omega⟩
  rw [wr64_id (by unfold I64; omega), show (7 : Int) * ((4 - r : Nat) : Int) = ((7 * (4 - r) : Nat) : Int) by omega, ishl_nat (by omega) (by omega)]
theorem and127 {c : Nat} (hc : c < 256) : iand .u8 (c : Int) 127 = ((c % 128 : Nat) : Int) := by
  rw [show (127 : Int) = ((127 : Nat) : Int) from rfl, iand8_nat (by omega) (by omega), show (127 : Nat) = 2 ^ 7 - 1 from rfl, and_low]
theorem and127w {c : Nat} (hc : c < 256) : iand .i64 (c : Int) 127 = ((c % 128 : Nat) : Int) := by
  rw [show (127 : Int) = ((127 : Nat) : Int) from rfl, iand_nat (by omega) (by omega), show (127 : Nat) = 2 ^ 7 - 1 from rfl, and_low]
set_option maxRecDepth 10000 in
theorem getP_piece : PieceOk E0 1 (44, pGetP, specGetP) := by
  refine piece_loop mixed (calls_envN _) (lok_envN _) lm_none (n := 60) (by kernel_rfl) (fun g : GGet => ((5, g.i, g.v) : Nat × Nat × Nat)) invGet msGet (sl := slGetP) (rl := rlGet) (fun g hg => ⟨Nat.le_refl _, hg.2.1, hg.2.2, rfl⟩) (fun g s hg hi => ?_)
  refine (getP_round g s _ _).mpr ?_
  obtain ⟨r, i, v⟩ := s
  obtain ⟨h1, h2, h3, h4⟩ := hi
  have hb := hg.1
  unfold maxLen at hb
  simp only at h1 h2 h3 h4
  simp only [ofNat_eq, toNat_cast, Nat.zero_add, Nat.add_zero, Nat.mul_one, List.drop_zero, bCells_len, bCells_drop, bCells_take, bCells_app, bCells_one, bCells_plain, List.length_replicate, List.length_append, List.length_take, List.length_drop, List.take_length, and_true, true_and, and_self, decide_true, List.length_nil, List.length_cons, Nat.sub_zero, dB_mk, dB_ro, List.take_zero]
  refine br_if (fun h => ?_) (fun h => ?_)
  · obtain ⟨q, rfl⟩ : ∃ q, r = q + 1 := ⟨r - 1, by omega⟩
    rw [getL] at h4
    refine br_intro (fun e => ?_) (fun e => ?_)
    · have e : i = g.b.length := by simp at e; omega
      rw [if_pos (by omega)] at h4
      rw [← h4]; exact ⟨(), by simp⟩
    · have e : i ≠ g.b.length := by simp at e; omega
      have hi : i < g.b.length := by omega
      rw [if_neg (by omega)] at h4
      have ec : cellI (bCells g.b) i = (atB g.b i : Nat) := bCells_cell hi
      have hc := atB_lt g.b i
      obtain ⟨s1, s2⟩ := shl_at (c := atB g.b i) (r := q) hc (by omega)
      have e5 : 5 - (q + 1) = 4 - q := by omega
      have w1 : IntKind.i64.wrap ((i : Int) + 1) = ((i + 1 : Nat) : Int) := by rw [wr64_id (by unfold I64; omega)]; omega
      have w2 : IntKind.i64.wrap (((i + 1 : Nat) : Int) - 1) = (i : Int) := by rw [wr64_id (by unfold I64; omega)]; omega
      have w3 : IntKind.i64.wrap ((atB g.b i % 128 : Nat) : Int) = ((atB g.b i % 128 : Nat) : Int) := wr64_id (by unfold I64; omega)
      have w4 : IntKind.i64.wrap ((v : Int) + ((atB g.b i % 128 * 2 ^ (7 * (4 - q)) : Nat) : Int)) = ((v + atB g.b i % 128 * 2 ^ (7 * (4 - q)) : Nat) : Int) := by rw [wr64_id (by unfold I64; omega)]; omega
      have w5 : IntKind.i64.wrap (((4 - q : Nat) : Int) + 1) = ((5 - q : Nat) : Int) := by rw [wr64_id (by unfold I64; omega)]; omega
      have w6 : IntKind.i64.wrap (7 * ((4 - q : Nat) : Int)) = (7 * ((4 - q : Nat) : Int)) := wr64_id (by unfold I64; omega)
      simp only [e5, w1, w2, toNat_cast, Nat.zero_add, Nat.mul_one, ec, and127 hc, w3, s1, w4, w5]
      simp only [w6]
      refine br_dec (by omega) ⟨by rw [bCells_at hi, ec], br_dec (by omega) (br_if (fun h => ?_) (fun h => br_dec (by omega) ⟨by rw [bCells_at hi, ec], ?_⟩))⟩
      · rw [if_pos (by omega)] at h4
        rw [← h4]; exact ⟨(), by simp⟩
      · rw [if_neg (by omega)] at h4
        rcases Nat.lt_or_ge (atB g.b i) 128 with h' | h'
        · rw [if_pos h'] at h4
          refine br_dec (by omega) ?_
          rw [← h4]; exact ⟨(), by simp⟩
        rw [if_neg (Nat.not_lt.2 h')] at h4
        refine br_nd (by omega) ?_
        exact ⟨(q, i + 1, v + atB g.b i % 128 * 2 ^ (7 * (4 - q))), ⟨by simp only; omega, by simp only; omega, by simp only; omega, h4⟩, by unfold msGet; simp only; omega, by simp⟩
  · obtain rfl : r = 0 := by omega
    rw [getL] at h4
    exact ⟨(), by simp [← h4]⟩
theorem and_full {c k : Nat} (hc : c < 256) (hk : k ≤ 8) : iand .i64 (IntKind.i64.wrap (c : Nat)) ((2 ^ k - 1 : Nat) : Int) = ((c % 2 ^ k : Nat) : Int) := by
  have hp : 2 ^ k ≤ 2 ^ 8 := Nat.pow_le_pow_right (by omega) hk
  rw [wr64_id (by unfold I64; omega), iand_nat (by omega) (by omega), and_low]
set_option maxRecDepth 10000 in
theorem getP_con (b : List UInt8) (i n : Int) (hb : b.length ≤ maxLen) : Con Try.prog 44 [slc 0 b.length, .int .i64 i, .int .i64 n] [bRo b] (tup (getOut b i n)) [bRo b] := by
  refine con_vc (E := E0) mixed (calls_envN _) (lok_envN _) (M := mGetP) (lm_one getP_piece) (getP_vc b i n _) ?_
  have hm : maxLen = 9223372036854775807 := by unfold maxLen; rfl
  simp only [ofNat_eq, toNat_cast, Nat.zero_add, Nat.add_zero, Nat.mul_one, List.drop_zero, bCells_len, bCells_drop, bCells_take, bCells_app, bCells_one, bCells_plain, List.length_replicate, List.length_append, List.length_take, List.length_drop, List.take_length, and_true, true_and, and_self, decide_true, List.length_nil, List.length_cons, Nat.sub_zero, dB_mk, dB_ro, List.take_zero]
  refine br_if (fun h => ?_) fun h1 => br_if (fun h => ?_) fun h2 => br_if (fun h => ?_) fun h3 => br_if (fun h => ?_) fun h4 => br_intro (fun h => ?_) fun h5 => ?_
  · have e : getOut b i n = (0, 0, 1) := by unfold getOut; rw [if_pos (by omega)]
    rw [e]; simp
  · have e : getOut b i n = (0, 0, 1) := by unfold getOut; rw [if_pos (by omega)]
    rw [e]; simp
  · have e : getOut b i n = (0, 0, 1) := by unfold getOut; rw [if_pos (by omega)]
    rw [e]; simp
  · have e : getOut b i n = (0, 0, 1) := by unfold getOut; rw [if_pos (by omega)]
    rw [e]; simp
  · have h : i = b.length := by simp at h; exact h
    have e : getOut b i n = (0, 0, 3) := by unfold getOut; rw [if_neg (by omega), if_pos h]
    rw [e]; simp
  have h5 : i ≠ b.length := by simp at h5; exact h5
  obtain ⟨k, rfl⟩ : ∃ k : Nat, n = k := ⟨n.toNat, by omega⟩
  obtain ⟨j, rfl⟩ : ∃ j : Nat, i = j := ⟨i.toNat, by omega⟩
  have hj : j < b.length := by omega
  have hc := atB_lt b j
  have ec : cellI (bCells b) j = (atB b j : Nat) := bCells_cell hj
  have w1 : IntKind.i64.wrap ((j : Int) + 1) = ((j + 1 : Nat) : Int) := by rw [wr64_id (by unfold I64; omega)]; omega
  have hp : 2 ^ k ≤ 2 ^ 8 := Nat.pow_le_pow_right (by omega) (by omega)
  have hp0 : 0 < 2 ^ k := Nat.two_pow_pos k
  have hmod : atB b j % 2 ^ k < 2 ^ k := Nat.mod_lt _ hp0
  simp only [toNat_cast, ec, sh1 k (by omega), and_full hc (show k ≤ 8 by omega), w1]
  refine br_dec (by omega) (br_dec (by omega) ⟨by rw [bCells_at hj, ec], br_if (fun h => ?_) (fun h => ?_)⟩)
  · have e : getOut b j k = (atB b j % 2 ^ k, j + 1, 0) := by
      unfold getOut; rw [if_neg (by omega), if_neg (by omega)]; simp only [toNat_cast]; rw [if_pos (by omega)]
    rw [e]; simp
  · have e : getOut b j k = gotL ⟨b, j + 1, 2 ^ k - 1⟩ := by
      unfold getOut; rw [if_neg (by omega), if_neg (by omega)]; simp only [toNat_cast]; rw [if_neg (by omega)]; rfl
    refine ⟨⟨b, j + 1, 2 ^ k - 1⟩, ⟨hb, by simp only; omega, by simp only; omega⟩, ?_⟩
    simp only [ofNat_eq, toNat_cast, Nat.zero_add, Nat.add_zero, Nat.mul_one, List.drop_zero, bCells_len, bCells_drop, bCells_take, bCells_app, bCells_one, bCells_plain, List.length_replicate, List.length_append, List.length_take, List.length_drop, List.take_length, and_true, true_and, and_self, decide_true, List.length_nil, List.length_cons, Nat.sub_zero, dB_mk, dB_ro, List.take_zero]
    refine ⟨by omega, ?_⟩
    rw [e]
    refine fun side => ?_
    cases side
    · exact fun _ _ => ⟨rfl, rfl, rfl⟩
    · exact fun _ hz => by rw [hz]; simp
end Go.Proofs.Ytellbmbklfbbfaa.s3
