/- Numbers in prefixes: Put and Get, the program's and the document's own. -/
import Derived.Test.YtlkinjlbaeigdaaSz9
import Derived.Test.YtlkinjlbaeigdaaRows
import Derived.Test.YtlkinjlbaeigdaaLbk0
set_option maxRecDepth 20000
set_option linter.unusedSimpArgs false
set_option linter.unusedVariables false
namespace Go.Proofs.Ytlkinjlbaeigdaa.s3
open Go Go.Ev Go.Sy Go.RowKit Go.Proofs.Ytlkinjlbaeigdaa.bk
def pPut : List Nat := [0, 0, 1, 1, 1, 1, 1, 1, 1, 1]
def more (v : Nat) : List UInt8 := if h : 128 ≤ v then UInt8.ofNat (v % 128 + 128) :: more (v / 128) else [UInt8.ofNat v]
termination_by v
decreasing_by omega
structure GPut where
  b : List UInt8
  x : List UInt8
  v : Nat
def loopB (v : Nat) : List UInt8 := if h : 128 ≤ v then UInt8.ofNat (v % 128 + 128) :: loopB (v / 128) else []
termination_by v
decreasing_by omega
def loopV (v : Nat) : Nat := if h : 128 ≤ v then loopV (v / 128) else v
termination_by v
decreasing_by omega
def slPut (g : GPut) (i : List UInt8 × Nat) : List (Nat × Value) := [(3, .int .i64 i.2), (9, slc 1 i.1.length)]
def rlPut (g : GPut) (i : List UInt8 × Nat) : List (Nat × Row) := [(0, bRo g.b), (1, bOwn i.1)]
def wsPut (g : GPut) : List (Gate Unit) := [⟨.exit 0, fun _ => True, fun _ => [(3, .int .i64 (loopV g.v)), (9, slc 1 (g.x ++ loopB g.v).length)], fun _ => [(0, bRo g.b), (1, bOwn (g.x ++ loopB g.v))], 2⟩]
def specPut (nt : Nat) : Sy.Spec := specOf 1 2 nt (fun g : GPut => g.v ≤ 2147483647 ∧ 0 < g.x.length ∧ g.x.length ≤ 16777000) (fun g => slPut g (g.x, g.v)) (fun g => rlPut g (g.x, g.v)) wsPut
def mPut := mOf [(42, pPut, specPut 72)]
def headB (t : UInt8) (k v : Nat) : UInt8 := UInt8.ofNat (2 ^ k * (t.toNat / 2 ^ k) + v)
def putB (t : UInt8) (k v : Nat) : List UInt8 := if v < 2 ^ k - 1 then [headB t k v] else headB t k (2 ^ k - 1) :: more (v - (2 ^ k - 1))
def putOut (b : List UInt8) (n : Int) (t : UInt8) (v : Int) : List UInt8 := if 1 ≤ n ∧ n ≤ 8 ∧ 0 ≤ v ∧ v ≤ 2147483647 then b ++ putB t n.toNat v.toNat else b
theorem put_round (g : GPut) (i : List UInt8 × Nat) (Inv : List UInt8 × Nat → Prop) (m : List UInt8 × Nat → Nat) : mev E0 noM 60 42 (0 :: pPut) false (codeOf Try.prog 42 (0 :: pPut)) ⟨mkOv (slPut g i), 72, []⟩ none ⟨mkR (rlPut g i), 2⟩ (roundK 1 2 72 Inv m (slPut g) (rlPut g) (wsPut g) i) =
  (br (decide ((↑i.2 : Int) ≥ (128 : Int))) (br (decide (List.length i.1 + 1 <= 16777216)) (br (decide (0 + List.length i.1 * 1 <= List.length (bCells i.1))) (∃ j : List
  UInt8 × Nat, ((Inv j) /\ ((m j < m i) /\ (((↑j.2 : Int) = ishr IntKind.i64 (↑i.2 : Int) (7 : Int)) /\ ((0 = 0) /\ ((List.length j.1 = List.length i.1 + 1) /\ ((Eq (α :=
  List Value) (bCells g.1) (bCells g.1)) /\ ((Plain (bCells g.1)) /\ ((Eq (α := List Value) (bCells j.1) (List.take (List.length i.1 * 1) (List.drop 0 (bCells i.1)) ++
  [Value.int IntKind.u8 (IntKind.wrap IntKind.u8 (ior IntKind.i64 (iand IntKind.i64 (↑i.2 : Int) (127 : Int)) (128 : Int)))])) /\ ((Plain (bCells j.1)) /\ True))))))))))
  False) False) (∃ y : Unit, ((True) /\ (((↑(loopV g.3) : Int) = (↑i.2 : Int)) /\ ((0 = 0) /\ ((List.length (g.2 ++ loopB g.3) = List.length i.1) /\ ((Eq (α := List Value)
  (bCells g.1) (bCells g.1)) /\ ((Plain (bCells g.1)) /\ ((Eq (α := List Value) (bCells (g.2 ++ loopB g.3)) (bCells i.1)) /\ ((Plain (bCells (g.2 ++ loopB g.3))) /\
  True)))))))))) := by kernel_rfl
theorem put_vc (b : List UInt8) (n : Int) (t : UInt8) (v : Int) (out : List UInt8) : mcall E0 mPut 60 42 [slc 0 b.length, .int .i64 n, .int .u8 t.toNat, .int .i64 v] ⟨mkR (nums 0 [bRo b]), 1⟩ (retIs 1 (slc 1 out.length) [bRo b, bOwn out]) =
  (br (decide (0 + List.length b * 1 <= List.length (bCells b))) (br (allOne (List.take (List.length b * 1) (List.drop 0 (bCells b)))) (br (decide (List.length b <=
  16777216)) (br (decide (n < (1 : Int))) ((0 = 0) /\ ((List.length out = List.length b) /\ ((Eq (α := List Value) (bCells b) (bCells b)) /\ ((Plain (bCells b)) /\ ((Eq (α
  := List Value) (bCells out) (List.take (List.length b * 1) (List.drop 0 (bCells b)))) /\ ((Plain (bCells out)) /\ True)))))) (br (decide (n > (8 : Int))) ((0 = 0) /\
  ((List.length out = List.length b) /\ ((Eq (α := List Value) (bCells b) (bCells b)) /\ ((Plain (bCells b)) /\ ((Eq (α := List Value) (bCells out) (List.take (List.length b
  * 1) (List.drop 0 (bCells b)))) /\ ((Plain (bCells out)) /\ True)))))) (br (decide (v < (0 : Int))) ((0 = 0) /\ ((List.length out = List.length b) /\ ((Eq (α := List
  Value) (bCells b) (bCells b)) /\ ((Plain (bCells b)) /\ ((Eq (α := List Value) (bCells out) (List.take (List.length b * 1) (List.drop 0 (bCells b)))) /\ ((Plain (bCells
  out)) /\ True)))))) (br (decide (v > (2147483647 : Int))) ((0 = 0) /\ ((List.length out = List.length b) /\ ((Eq (α := List Value) (bCells b) (bCells b)) /\ ((Plain
  (bCells b)) /\ ((Eq (α := List Value) (bCells out) (List.take (List.length b * 1) (List.drop 0 (bCells b)))) /\ ((Plain (bCells out)) /\ True)))))) (br (decide ((0 : Int)
  <= n)) (br (decide (v < IntKind.wrap IntKind.i64 (ishl IntKind.i64 (1 : Int) n - (1 : Int)))) (br (decide (List.length b + 1 <= 16777216)) (br (decide (0 + List.length b *
  1 <= List.length (List.take (List.length b * 1) (List.drop 0 (bCells b))))) ((0 = 0) /\ ((List.length out = List.length b + 1) /\ ((Eq (α := List Value) (bCells b) (bCells
  b)) /\ ((Plain (bCells b)) /\ ((Eq (α := List Value) (bCells out) (List.take (List.length b * 1) (List.drop 0 (List.take (List.length b * 1) (List.drop 0 (bCells b)))) ++
  [Value.int IntKind.u8 (IntKind.wrap IntKind.u8 (ior IntKind.i64 (iandn IntKind.i64 (IntKind.wrap IntKind.i64 (↑(UInt8.toNat t) : Int)) (IntKind.wrap IntKind.i64 (ishl
  IntKind.i64 (1 : Int) n - (1 : Int)))) v))])) /\ ((Plain (bCells out)) /\ True)))))) False) False) (br (decide (List.length b + 1 <= 16777216)) (br (decide (0 +
  List.length b * 1 <= List.length (List.take (List.length b * 1) (List.drop 0 (bCells b))))) (∃ g : GPut, ((g.3 <= 2147483647 /\ 0 < List.length g.2 /\ List.length g.2 <=
  16777000) /\ (((↑g.3 : Int) = IntKind.wrap IntKind.i64 (v - IntKind.wrap IntKind.i64 (ishl IntKind.i64 (1 : Int) n - (1 : Int)))) /\ ((0 = 0) /\ ((List.length g.2 =
  List.length b + 1) /\ ((Eq (α := List Value) (bCells g.1) (bCells b)) /\ ((Plain (bCells g.1)) /\ ((Eq (α := List Value) (bCells g.2) (List.take (List.length b * 1)
  (List.drop 0 (List.take (List.length b * 1) (List.drop 0 (bCells b)))) ++ [Value.int IntKind.u8 (IntKind.wrap IntKind.u8 (ior IntKind.i64 (iandn IntKind.i64 (IntKind.wrap
  IntKind.i64 (↑(UInt8.toNat t) : Int)) (IntKind.wrap IntKind.i64 (ishl IntKind.i64 (1 : Int) n - (1 : Int)))) (IntKind.wrap IntKind.i64 (ishl IntKind.i64 (1 : Int) n - (1 :
  Int)))))])) /\ ((Plain (bCells g.2)) /\ (∀ (y : Unit), ((True) → (br (decide (List.length (g.2 ++ loopB g.3) + 1 <= 16777216)) (br (decide (0 + List.length (g.2 ++ loopB
  g.3) * 1 <= List.length (bCells (g.2 ++ loopB g.3)))) ((0 = 0) /\ ((List.length out = List.length (g.2 ++ loopB g.3) + 1) /\ ((Eq (α := List Value) (bCells b) (bCells
  g.1)) /\ ((Plain (bCells b)) /\ ((Eq (α := List Value) (bCells out) (List.take (List.length (g.2 ++ loopB g.3) * 1) (List.drop 0 (bCells (g.2 ++ loopB g.3))) ++ [Value.int
  IntKind.u8 (IntKind.wrap IntKind.u8 (↑(loopV g.3) : Int))])) /\ ((Plain (bCells out)) /\ True)))))) False) False)))))))))))) False) False)) False))))) False) False) False) := by kernel_rfl
theorem loop_more (v : Nat) : more v = loopB v ++ [UInt8.ofNat (loopV v)] := by
  induction v using Nat.strongRecOn with
  | _ v ih =>
    rw [more, loopB, loopV]
    split
    · rw [ih (v / 128) (by omega)]; simp
    · rfl
theorem loop_len (v : Nat) (h : v ≤ 2147483647) : (loopB v).length ≤ 4 := by
  have l0 : ∀ v, v < 128 → (loopB v).length = 0 := fun v h => by rw [loopB, dif_neg (by omega)]; rfl
  have l1 : ∀ v, v < 16384 → (loopB v).length ≤ 1 := fun v h => by
    rw [loopB]; split
    · have := l0 (v / 128) (by omega); rw [List.length_cons]; omega
    · simp
  have l2 : ∀ v, v < 2097152 → (loopB v).length ≤ 2 := fun v h => by
    rw [loopB]; split
    · have := l1 (v / 128) (by omega); rw [List.length_cons]; omega
    · simp
  have l3 : ∀ v, v < 268435456 → (loopB v).length ≤ 3 := fun v h => by
    rw [loopB]; split
    · have := l2 (v / 128) (by omega); rw [List.length_cons]; omega
    · simp
  rw [loopB]; split
  · have := l3 (v / 128) (by omega); rw [List.length_cons]; omega
  · simp
theorem loopV_lt (v : Nat) : loopV v < 128 := by
  induction v using Nat.strongRecOn with
  | _ v ih =>
    rw [loopV]
    split
    · exact ih _ (by omega)
    · omega
def invPut (g : GPut) (i : List UInt8 × Nat) : Prop := i.2 ≤ 2147483647 ∧ 0 < i.1.length ∧ i.1 ++ loopB i.2 = g.x ++ loopB g.v ∧ loopV i.2 = loopV g.v
def msPut (_ : GPut) (i : List UInt8 × Nat) : Nat := i.2
theorem byte_or {v : Nat} (h : v ≤ 2147483647) : IntKind.u8.wrap (ior .i64 (iand .i64 (v : Int) 127) 128) = ((v % 128 + 128 : Nat) : Int) := by
  rw [show (127 : Int) = ((127 : Nat) : Int) from rfl, iand_nat (by omega) (by omega), show (128 : Int) = ((128 : Nat) : Int) from rfl, show (127 : Nat) = 2 ^ 7 - 1 from rfl, and_low, ior_nat (by omega) (by omega)]
  have := or_add (k := 7) (a := 1) (b := v % 2 ^ 7) (by omega)
  rw [Nat.or_comm, show (128 : Nat) = 2 ^ 7 * 1 from rfl, this, wru8_nat (by omega)]
  omega
theorem invPut_len {g : GPut} {i : List UInt8 × Nat} (hg : g.v ≤ 2147483647 ∧ 0 < g.x.length ∧ g.x.length ≤ 16777000) (hi : invPut g i) : i.1.length ≤ 16777004 := by
  have h := congrArg List.length hi.2.2.1
  simp only [List.length_append] at h
  have := loop_len g.v hg.1
  omega
theorem put_piece : PieceOk E0 1 (42, pPut, specPut 72) := by
  refine piece_loop mixed (calls_envN _) (lok_envN _) lm_none (n := 60) (by kernel_rfl) (fun g : GPut => (g.x, g.v)) invPut msPut (sl := slPut) (rl := rlPut) (fun g hg => ⟨hg.1, hg.2.1, rfl, rfl⟩) (fun g i hg hi => ?_)
  have hlen := invPut_len hg hi
  refine (put_round g i _ _).mpr ?_
  obtain ⟨x, v⟩ := i
  obtain ⟨h1, h2, h3, h4⟩ := hi
  simp only at h1 h2 h3 h4 hlen
  simp only [ofNat_eq, toNat_cast, Nat.zero_add, Nat.add_zero, Nat.mul_one, List.drop_zero, bCells_len, bCells_drop, bCells_take, bCells_app, bCells_one, bCells_plain, List.length_replicate, List.length_append, List.length_take, List.length_drop, List.take_length, and_true, true_and, and_self, decide_true, List.length_nil, List.length_cons, Nat.sub_zero, dB_mk, dB_ro, List.take_zero]
  refine br_if (fun h => ?_) (fun h => ?_)
  · have h : 128 ≤ v := by omega
    refine br_dec (by omega) (br_dec (by omega) ⟨(x ++ [UInt8.ofNat (v % 128 + 128)], v / 128), ?_, by unfold msPut; simp only; omega, ?_⟩)
    · refine ⟨by simp only; omega, by simp, ?_, ?_⟩
      · simp only
        rw [← h3]; conv => rhs; rw [loopB, dif_pos h]
        simp
      · simp only
        rw [← h4]; conv => rhs; rw [loopV, dif_pos h]
    · simp only [ofNat_eq, toNat_cast, Nat.zero_add, Nat.add_zero, Nat.mul_one, List.drop_zero, bCells_len, bCells_drop, bCells_take, bCells_app, bCells_one, bCells_plain, List.length_replicate, List.length_append, List.length_take, List.length_drop, List.take_length, and_true, true_and, and_self, decide_true, List.length_nil, List.length_cons, Nat.sub_zero, dB_mk, dB_ro, List.take_zero, byte_or h1]
      rw [show (7 : Int) = ((7 : Nat) : Int) from rfl, ishr_nat (by omega), bVal_nat (by omega), bCells_sing, bCells_app]
      simp
  · have h : ¬ 128 ≤ v := by omega
    have e1 : loopB v = [] := by rw [loopB, dif_neg h]
    have e2 : loopV v = v := by rw [loopV, dif_neg h]
    rw [e1, List.append_nil] at h3
    rw [e2] at h4
    refine ⟨(), ?_⟩
    have := congrArg List.length h3
    rw [List.length_append] at this
    rw [← h3, ← h4]
    simp only [ofNat_eq, toNat_cast, Nat.zero_add, Nat.add_zero, Nat.mul_one, List.drop_zero, bCells_len, bCells_drop, bCells_take, bCells_app, bCells_one, bCells_plain, List.length_replicate, List.length_append, List.length_take, List.length_drop, List.take_length, and_true, true_and, and_self, decide_true, List.length_nil, List.length_cons, Nat.sub_zero, dB_mk, dB_ro, List.take_zero]
    omega
theorem sh1 (k : Nat) (h : k ≤ 8) : IntKind.i64.wrap (ishl .i64 1 (k : Int) - 1) = ((2 ^ k - 1 : Nat) : Int) := by
  have hp : 2 ^ k ≤ 2 ^ 8 := Nat.pow_le_pow_right (by omega) h
  have h1 : 1 ≤ 2 ^ k := Nat.one_le_two_pow
  rw [show (1 : Int) = ((1 : Nat) : Int) from rfl, ishl_nat (by omega) (by omega), Nat.one_mul, wr64_id (by unfold I64; omega)]
  omega
theorem beside_all : ∀ (k : Fin 9) (t : Fin 256), t.1 &&& (18446744073709551615 - (2 ^ k.1 - 1)) = 2 ^ k.1 * (t.1 / 2 ^ k.1) := by decide +kernel
theorem beside_lt (t : UInt8) (k v : Nat) (hk : k ≤ 8) (hv : v < 2 ^ k) : 2 ^ k * (t.toNat / 2 ^ k) + v < 256 := by
  have ht := u8_lt t
  have e : 2 ^ k * 2 ^ (8 - k) = 256 := by rw [← Nat.pow_add, show k + (8 - k) = 8 by omega]
  have h1 : t.toNat / 2 ^ k < 2 ^ (8 - k) := by
    rw [Nat.div_lt_iff_lt_mul (Nat.two_pow_pos k), Nat.mul_comm, e]; exact ht
  have h2 : 2 ^ k * (t.toNat / 2 ^ k + 1) ≤ 2 ^ k * 2 ^ (8 - k) := Nat.mul_le_mul (Nat.le_refl _) h1
  rw [Nat.mul_add, Nat.mul_one, e] at h2
  omega
theorem head_byte (t : UInt8) (k v : Nat) (hk : k ≤ 8) (hv : v < 2 ^ k) : Value.int .u8 (IntKind.u8.wrap (ior .i64 (iandn .i64 (IntKind.i64.wrap (t.toNat : Int)) ((2 ^ k - 1 : Nat) : Int)) (v : Int))) = bVal (headB t k v) := by
  have ht := u8_lt t
  have hp : 2 ^ k ≤ 2 ^ 8 := Nat.pow_le_pow_right (by omega) hk
  have hl := beside_lt t k v hk hv
  rw [wr64_id (n := (t.toNat : Int)) (by unfold I64; omega), iandn_nat (by omega) (by omega), beside_all ⟨k, by omega⟩ ⟨t.toNat, ht⟩]
  simp only
  rw [ior_nat (by omega) (by omega), or_add hv, wru8_nat hl, bVal_nat hl]; rfl
theorem put_con (b : List UInt8) (n : Int) (t : UInt8) (v : Int) (hb : b.length ≤ 16776000) : Con Try.prog 42 [slc 0 b.length, .int .i64 n, .int .u8 t.toNat, .int .i64 v] [bRo b] (slc 1 (putOut b n t v).length) [bRo b, bOwn (putOut b n t v)] := by
  refine con_vc (E := E0) mixed (calls_envN _) (lok_envN _) (M := mPut) (lm_one put_piece) (put_vc b n t v _) ?_
  simp only [ofNat_eq, toNat_cast, Nat.zero_add, Nat.add_zero, Nat.mul_one, List.drop_zero, bCells_len, bCells_drop, bCells_take, bCells_app, bCells_one, bCells_plain, List.length_replicate, List.length_append, List.length_take, List.length_drop, List.take_length, and_true, true_and, and_self, decide_true, List.length_nil, List.length_cons, Nat.sub_zero, dB_mk, dB_ro, List.take_zero]
  have out : ¬ (1 ≤ n ∧ n ≤ 8 ∧ 0 ≤ v ∧ v ≤ 2147483647) → putOut b n t v = b := fun h => if_neg h
  refine br_dec (by omega) (br_b rfl (br_dec (by omega) (br_if (fun h => ?_) fun h1 => br_if (fun h => ?_) fun h2 => br_if (fun h => ?_) fun h3 => br_if (fun h => ?_) fun h4 => br_dec (by omega) ?_)))
  · rw [out (by omega)]; simp
  · rw [out (by omega)]; simp
  · rw [out (by omega)]; simp
  · rw [out (by omega)]; simp
  obtain ⟨k, rfl⟩ : ∃ k : Nat, n = k := ⟨n.toNat, by omega⟩
  obtain ⟨u, rfl⟩ : ∃ u : Nat, v = u := ⟨v.toNat, by omega⟩
  have hp : 2 ^ k ≤ 2 ^ 8 := Nat.pow_le_pow_right (by omega) (by omega)
  have hp0 : 0 < 2 ^ k := Nat.two_pow_pos k
  have e : putOut b k t u = b ++ putB t k u := by unfold putOut; rw [if_pos (by omega)]; simp
  rw [e, sh1 k (by omega)]
  refine br_if (fun h => ?_) (fun h => ?_)
  · have h : u < 2 ^ k - 1 := by omega
    refine br_dec (by omega) (br_dec (by omega) ?_)
    rw [head_byte t k u (by omega) (by omega)]
    simp only [putB, if_pos h, bCells_sing, ofNat_eq, toNat_cast, Nat.zero_add, Nat.add_zero, Nat.mul_one, List.drop_zero, bCells_len, bCells_drop, bCells_take, bCells_app, bCells_one, bCells_plain, List.length_replicate, List.length_append, List.length_take, List.length_drop, List.take_length, and_true, true_and, and_self, decide_true, List.length_nil, List.length_cons, Nat.sub_zero, dB_mk, dB_ro, List.take_zero]
  · have h : ¬ u < 2 ^ k - 1 := by omega
    refine br_dec (by omega) (br_dec (by omega) ⟨⟨b, b ++ [headB t k (2 ^ k - 1)], u - (2 ^ k - 1)⟩, ?_, ?_⟩)
    · exact ⟨by simp only; omega, by simp, by simp; omega⟩
    rw [head_byte t k _ (by omega) (by omega)]
    have w : IntKind.i64.wrap ((u : Int) - ((2 ^ k - 1 : Nat) : Int)) = ((u - (2 ^ k - 1) : Nat) : Int) := by rw [wr64_id (by unfold I64; omega)]; omega
    have hl := loop_len (u - (2 ^ k - 1)) (by omega)
    have hv := loopV_lt (u - (2 ^ k - 1))
    simp only [w, bCells_sing, ofNat_eq, toNat_cast, Nat.zero_add, Nat.add_zero, Nat.mul_one, List.drop_zero, bCells_len, bCells_drop, bCells_take, bCells_app, bCells_one, bCells_plain, List.length_replicate, List.length_append, List.length_take, List.length_drop, List.take_length, and_true, true_and, and_self, decide_true, List.length_nil, List.length_cons, Nat.sub_zero, dB_mk, dB_ro, List.take_zero, putB, if_neg h]
    intro _ _
    refine br_dec (by omega) (br_dec (by omega) ⟨by rw [loop_more]; simp; omega, ?_⟩)
    rw [wru8_nat (by omega), bVal_nat (by omega), loop_more, List.take_of_length_le (by simp; omega), bCells_sing, bCells_app]
    simp
end Go.Proofs.Ytlkinjlbaeigdaa.s3
