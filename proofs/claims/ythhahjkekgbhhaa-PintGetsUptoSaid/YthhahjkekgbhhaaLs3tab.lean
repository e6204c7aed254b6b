/- What the laws of chapter 3 call. -/
import Derived.Test.YthhahjkekgbhhaaSz9
import Derived.Test.YthhahjkekgbhhaaRows
import Derived.Test.YthhahjkekgbhhaaLs3get
set_option linter.unusedSimpArgs false
set_option linter.unusedVariables false
namespace Go.Proofs.Ythhahjkekgbhhaa.s3
open Go Go.Ev Go.Sy Go.RowKit Go.Proofs.Ythhahjkekgbhhaa.bk
def slPut0 (_ : GPut) (i : List UInt8 × Nat) : List (Nat × Value) := [(3, .int .i64 i.2), (9, slc 0 i.1.length)]
def rlPut0 (_ : GPut) (i : List UInt8 × Nat) : List (Nat × Row) := [(0, bOwn i.1)]
def wsPut0 (g : GPut) : List (Gate Unit) := [⟨.exit 0, fun _ => True, fun _ => [(3, .int .i64 (loopV g.v)), (9, slc 0 (g.x ++ loopB g.v).length)], fun _ => [(0, bOwn (g.x ++ loopB g.v))], 1⟩]
def specPut0 : Sy.Spec := specOf 0 1 72 (fun g : GPut => g.v ≤ 2147483647 ∧ 0 < g.x.length ∧ g.x.length ≤ 16777000) (fun g => slPut0 g (g.x, g.v)) (fun g => rlPut0 g (g.x, g.v)) wsPut0
def mPut0 := mOf [(11, pPut, specPut0)]
def u8i (m : Int) : UInt8 := UInt8.ofNat m.toNat
def IsU8 (m : Int) : Prop := ∃ b : UInt8, m = b.toNat
def pad80 (l : List UInt8) (m : UInt8) : List UInt8 := l ++ List.replicate 80 m
def cG : FuncId → List Value → List Row → Option (Prop × Value × List Row)
  | 10, [.slice (some ⟨0, 0, none⟩) n 1, .slice (some ⟨1, 0, none⟩) m 1], [r0, r1] => some (IsB r0 n ∧ IsB r1 m ∧ n ≤ maxLen, .bool (decide (dB r0 = dB r1)), [])
  | 13, [.slice (some ⟨0, 0, none⟩) n 1, .int .u8 m], [r0] => some (IsB r0 n ∧ IsU8 m ∧ n ≤ 16777136, slc 1 (n + 80), [bOwn (pad80 (dB r0) (u8i m))])
  | 15, [.slice (some ⟨0, 0, none⟩) n 1, .slice (some ⟨1, 0, none⟩) m 1, .int .u8 k], [r0, r1] => some (IsB r0 n ∧ IsB r1 m ∧ IsU8 k ∧ n ≤ maxLen ∧ m ≤ 9223372036854775000, .bool (decide (dB r0 = pad80 (dB r1) (u8i k))), [])
  | 11, [.slice (some ⟨0, 0, none⟩) n 1, .int .i64 k, .int .u8 t, .int .i64 v], [r0] => some (IsB r0 n ∧ IsU8 t ∧ n ≤ 16776000, slc 1 (putOut (dB r0) k (u8i t) v).length, [bOwn (putOut (dB r0) k (u8i t) v)])
  | 11, [.slice none 0 0, .int .i64 k, .int .u8 t, .int .i64 v], [] => some (IsU8 t ∧ (1 ≤ k ∧ k ≤ 8 ∧ 0 ≤ v ∧ v ≤ 2147483647), slc 0 (putOut [] k (u8i t) v).length, [bOwn (putOut [] k (u8i t) v)])
  | 14, [.slice (some ⟨0, 0, none⟩) n 1, .int .i64 k, .int .u8 t, .int .i64 v], [r0] => some (IsB r0 n ∧ IsU8 t ∧ n ≤ 16776000, slc 1 (putOut (dB r0) k (u8i t) v).length, [bOwn (putOut (dB r0) k (u8i t) v)])
  | 16, [.slice (some ⟨0, 0, none⟩) n 1, .int .i64 i, .int .i64 k], [r0] => some (IsB r0 n ∧ n ≤ maxLen, tup (getOut (dB r0) i k), [])
  | 17, [.slice (some ⟨0, 0, none⟩) n 1, .int .i64 i, .int .i64 k], [r0] => some (IsB r0 n ∧ n ≤ maxLen, tup (getOut (dB r0) i k), [])
  | 18, [.int .i64 n, .int .i64 lo, .int .i64 hi], [] => some (0 ≤ lo ∧ lo ≤ hi ∧ hi ≤ 2147483647, .int .i64 (lo + n % (hi - lo + 1)), [])
  | 3, [], [] => some (True, .bool true, [])
  | _, _, _ => none
def kG (f : FuncId) : Bool := Nat.beq f 10 || Nat.beq f 13 || Nat.beq f 15 || Nat.beq f 11 || Nat.beq f 14 || Nat.beq f 16 || Nat.beq f 17 || Nat.beq f 18 || Nat.beq f 3
noncomputable abbrev EG : Env := envC Try.prog cG kG
theorem within_vc (n lo hi x : Int) : mcall E0 noM 60 18 [.int .i64 n, .int .i64 lo, .int .i64 hi] ⟨mkR (nums 0 []), 0⟩ (retIs 0 (.int .i64 x) []) =
  (br (IntKind.wrap IntKind.i64 (IntKind.wrap IntKind.i64 (hi - lo) + (1 : Int)) != (0 : Int))
   (br (decide (Int.tmod n (IntKind.wrap IntKind.i64 (IntKind.wrap IntKind.i64 (hi - lo) + (1 : Int))) < (0 : Int)))
    ((x = IntKind.wrap IntKind.i64 (lo + IntKind.wrap IntKind.i64 (IntKind.wrap IntKind.i64 (IntKind.wrap IntKind.i64 (Int.tmod n (IntKind.wrap IntKind.i64 (IntKind.wrap IntKind.i64 (hi - lo) + (1 : Int))) + hi) - lo) + (1 : Int)))) ∧
    True)
    ((x = IntKind.wrap IntKind.i64 (lo + Int.tmod n (IntKind.wrap IntKind.i64 (IntKind.wrap IntKind.i64 (hi - lo) + (1 : Int))))) ∧
    True))
   False) := by kernel_rfl
theorem put0_round (g : GPut) (i : List UInt8 × Nat) (Inv : List UInt8 × Nat → Prop) (m : List UInt8 × Nat → Nat) : mev E0 noM 60 11 (0 :: pPut) false (codeOf Try.prog 11 (0 :: pPut)) ⟨mkOv (slPut0 g i), 72, []⟩ none ⟨mkR (rlPut0 g i), 1⟩ (roundK 0 1 72 Inv m (slPut0 g) (rlPut0 g) (wsPut0 g) i) =
  (br (decide ((↑i.2 : Int) ≥ (128 : Int)))
   (br (decide (List.length i.1 + (1 : Nat) ≤ (16777216 : Nat)))
    (br (decide ((0 : Nat) + List.length i.1 * (1 : Nat) ≤ List.length (bCells i.1)))
     (∃ j : List UInt8 × Nat, ((Inv j) ∧
     ((m j < m i) ∧
     (((↑j.2 : Int) = ishr IntKind.i64 (↑i.2 : Int) (7 : Int)) ∧
     (((0 : Nat) = (0 : Nat)) ∧
     ((List.length j.1 = List.length i.1 + (1 : Nat)) ∧
     ((Eq (α := List Value) (bCells j.1) (List.take (List.length i.1 * (1 : Nat)) (List.drop (0 : Nat) (bCells i.1)) ++ [Value.int IntKind.u8 (IntKind.wrap IntKind.u8 (ior IntKind.i64 (iand IntKind.i64 (↑i.2 : Int) (127 : Int)) (128 : Int)))])) ∧
     ((Plain (bCells j.1)) ∧
     True))))))))
     False)
    False)
   (∃ y : Unit, ((True) ∧
   (((↑(loopV g.3) : Int) = (↑i.2 : Int)) ∧
   (((0 : Nat) = (0 : Nat)) ∧
   ((List.length (g.2 ++ loopB g.3) = List.length i.1) ∧
   ((Eq (α := List Value) (bCells (g.2 ++ loopB g.3)) (bCells i.1)) ∧
   ((Plain (bCells (g.2 ++ loopB g.3))) ∧
   True)))))))) := by kernel_rfl
theorem put0_vc (n : Int) (t : UInt8) (v : Int) (out : List UInt8) : mcall E0 mPut0 60 11 [.slice none 0 0, .int .i64 n, .int .u8 t.toNat, .int .i64 v] ⟨mkR (nums 0 []), 0⟩ (retIs 0 (slc 0 out.length) [bOwn out]) =
  (br (decide (n < (1 : Int)))
   ((List.length out = (0 : Nat)) ∧
   ((Eq (α := List Value) (bCells out) ([])) ∧
   True))
   (br (decide (n > (8 : Int)))
    ((List.length out = (0 : Nat)) ∧
    ((Eq (α := List Value) (bCells out) ([])) ∧
    True))
    (br (decide (v < (0 : Int)))
     ((List.length out = (0 : Nat)) ∧
     ((Eq (α := List Value) (bCells out) ([])) ∧
     True))
     (br (decide (v > (2147483647 : Int)))
      ((List.length out = (0 : Nat)) ∧
      ((Eq (α := List Value) (bCells out) ([])) ∧
      True))
      (br (decide ((0 : Int) ≤ n))
       (br (decide (v < IntKind.wrap IntKind.i64 (ishl IntKind.i64 (1 : Int) n - (1 : Int))))
        (((0 : Nat) = (0 : Nat)) ∧
        ((List.length out = (1 : Nat)) ∧
        ((Eq (α := List Value) (bCells out) ([Value.int IntKind.u8 (IntKind.wrap IntKind.u8 (ior IntKind.i64 (iandn IntKind.i64 (IntKind.wrap IntKind.i64 (↑(UInt8.toNat t) : Int)) (IntKind.wrap IntKind.i64 (ishl IntKind.i64 (1 : Int) n - (1 : Int)))) v))])) ∧
        ((Plain (bCells out)) ∧
        True))))
        (∃ g : GPut, ((g.3 ≤ (2147483647 : Nat) ∧ (0 : Nat) < List.length g.2 ∧ List.length g.2 ≤ (16777000 : Nat)) ∧
        (((↑g.3 : Int) = IntKind.wrap IntKind.i64 (v - IntKind.wrap IntKind.i64 (ishl IntKind.i64 (1 : Int) n - (1 : Int)))) ∧
        (((0 : Nat) = (0 : Nat)) ∧
        ((List.length g.2 = (1 : Nat)) ∧
        ((Eq (α := List Value) (bCells g.2) ([Value.int IntKind.u8 (IntKind.wrap IntKind.u8 (ior IntKind.i64 (iandn IntKind.i64 (IntKind.wrap IntKind.i64 (↑(UInt8.toNat t) : Int)) (IntKind.wrap IntKind.i64 (ishl IntKind.i64 (1 : Int) n - (1 : Int)))) (IntKind.wrap IntKind.i64 (ishl IntKind.i64 (1 : Int) n - (1 : Int)))))])) ∧
        ((Plain (bCells g.2)) ∧
        (∀ (y : Unit), ((True) →
        (br (decide (List.length (g.2 ++ loopB g.3) + (1 : Nat) ≤ (16777216 : Nat)))
         (br (decide ((0 : Nat) + List.length (g.2 ++ loopB g.3) * (1 : Nat) ≤ List.length (bCells (g.2 ++ loopB g.3))))
          (((0 : Nat) = (0 : Nat)) ∧
          ((List.length out = List.length (g.2 ++ loopB g.3) + (1 : Nat)) ∧
          ((Eq (α := List Value) (bCells out) (List.take (List.length (g.2 ++ loopB g.3) * (1 : Nat)) (List.drop (0 : Nat) (bCells (g.2 ++ loopB g.3))) ++ [Value.int IntKind.u8 (IntKind.wrap IntKind.u8 (↑(loopV g.3) : Int))])) ∧
          ((Plain (bCells out)) ∧
          True))))
          False)
         False)))))))))))
       False))))) := by kernel_rfl

theorem emod_tmod (n m : Int) (hm : 0 < m) : n % m = if n.tmod m < 0 then n.tmod m + m else n.tmod m := by
  have h1 := Int.tmod_add_mul_tdiv n m
  have h2 := Int.tmod_lt_of_pos n hm
  have h3 := Int.lt_tmod_of_pos n hm
  have e : n % m = n.tmod m % m := by conv => lhs; rw [← h1, Int.add_mul_emod_self_left]
  rw [e]
  split
  · rw [← Int.add_emod_right, Int.emod_eq_of_lt (by omega) (by omega)]
  · rw [Int.emod_eq_of_lt (by omega) (by omega)]
theorem within_con (n lo hi : Int) (h0 : 0 ≤ lo) (h1 : lo ≤ hi) (h2 : hi ≤ 2147483647) : Con Try.prog 18 [.int .i64 n, .int .i64 lo, .int .i64 hi] [] (.int .i64 (lo + n % (hi - lo + 1))) [] := by
  refine con_vc (E := E0) mixed (calls_envN _) (lok_envN _) (M := noM) lm_none (within_vc n lo hi _) ?_
  have e := emod_tmod n (hi - lo + 1) (by omega)
  have b1 := Int.tmod_lt_of_pos n (show 0 < hi - lo + 1 by omega)
  have b2 := Int.lt_tmod_of_pos n (show 0 < hi - lo + 1 by omega)
  rw [wr64_id (n := hi - lo) (by unfold I64; omega), wr64_id (n := hi - lo + 1) (by unfold I64; omega)]
  generalize n.tmod (hi - lo + 1) = r at *
  rw [e]
  refine br_b (by simp; omega) (br_if (fun h => ?_) (fun h => ?_))
  · rw [if_pos h, wr64_id (n := r + hi) (by unfold I64; omega), wr64_id (n := r + hi - lo) (by unfold I64; omega), wr64_id (n := r + hi - lo + 1) (by unfold I64; omega), wr64_id (by unfold I64; omega)]
    exact ⟨by omega, trivial⟩
  · rw [if_neg h, wr64_id (by unfold I64; omega)]
    exact ⟨rfl, trivial⟩
theorem put0_piece : PieceOk E0 0 (11, pPut, specPut0) := by
  refine piece_loop mixed (calls_envN _) (lok_envN _) lm_none (n := 60) (by kernel_rfl) (fun g : GPut => (g.x, g.v)) invPut msPut (sl := slPut0) (rl := rlPut0) (fun g hg => ⟨hg.1, hg.2.1, rfl, rfl⟩) (fun g i hg hi => ?_)
  have hlen := invPut_len hg hi
  refine (put0_round g i _ _).mpr ?_
  obtain ⟨x, v⟩ := i
  obtain ⟨h1, h2, h3, h4⟩ := hi
  simp only at h1 h2 h3 h4 hlen
  simp only [ofNat_eq, toNat_cast, Nat.zero_add, Nat.add_zero, Nat.mul_one, List.drop_zero, bCells_len, bCells_drop, bCells_take, bCells_app, bCells_one, bCells_plain, List.length_replicate, List.length_append, List.length_take, List.length_drop, List.take_length, and_true, true_and, and_self, decide_true, List.length_nil, List.length_cons, Nat.sub_zero, dB_mk, dB_ro, List.take_zero]
  refine br_if (fun h => ?_) (fun h => ?_)
  · have h : 128 ≤ v := by omega
    refine br_dec (by omega) (br_dec (by omega) ⟨(x ++ [UInt8.ofNat (v % 128 + 128)], v / 128), ?_, by unfold msPut; simp only; omega, ?_⟩)
    · refine ⟨by simp only; omega, by simp, ?_, ?_⟩
      · simp only
        rw [← h3]; conv => rhs; rw [loopB, dif_pos h]
        simp
      · simp only
        rw [← h4]; conv => rhs; rw [loopV, dif_pos h]
    · simp only [ofNat_eq, toNat_cast, Nat.zero_add, Nat.add_zero, Nat.mul_one, List.drop_zero, bCells_len, bCells_drop, bCells_take, bCells_app, bCells_one, bCells_plain, List.length_replicate, List.length_append, List.length_take, List.length_drop, List.take_length, and_true, true_and, and_self, decide_true, List.length_nil, List.length_cons, Nat.sub_zero, dB_mk, dB_ro, List.take_zero, byte_or h1]
      rw [show (7 : Int) = ((7 : Nat) : Int) from rfl, ishr_nat (by omega), bVal_nat (by omega), bCells_sing, bCells_app]
      simp
  · have h : ¬ 128 ≤ v := by omega
    have e1 : loopB v = [] := by rw [loopB, dif_neg h]
    have e2 : loopV v = v := by rw [loopV, dif_neg h]
    rw [e1, List.append_nil] at h3
    rw [e2] at h4
    refine ⟨(), ?_⟩
    have := congrArg List.length h3
    rw [List.length_append] at this
    rw [← h3, ← h4]
    simp only [ofNat_eq, toNat_cast, Nat.zero_add, Nat.add_zero, Nat.mul_one, List.drop_zero, bCells_len, bCells_drop, bCells_take, bCells_app, bCells_one, bCells_plain, List.length_replicate, List.length_append, List.length_take, List.length_drop, List.take_length, and_true, true_and, and_self, decide_true, List.length_nil, List.length_cons, Nat.sub_zero, dB_mk, dB_ro, List.take_zero]
    omega
theorem putOut0 (n : Int) (t : UInt8) (v : Int) (h : 1 ≤ n ∧ n ≤ 8 ∧ 0 ≤ v ∧ v ≤ 2147483647) : putOut [] n t v = putB t n.toNat v.toNat := by
  unfold putOut; rw [if_pos h]; rfl
theorem put0_con (n : Int) (t : UInt8) (v : Int) (hn : 1 ≤ n ∧ n ≤ 8 ∧ 0 ≤ v ∧ v ≤ 2147483647) : Con Try.prog 11 [.slice none 0 0, .int .i64 n, .int .u8 t.toNat, .int .i64 v] [] (slc 0 (putOut [] n t v).length) [bOwn (putOut [] n t v)] := by
  refine con_vc (E := E0) mixed (calls_envN _) (lok_envN _) (M := mPut0) (lm_one put0_piece) (put0_vc n t v _) ?_
  simp only [ofNat_eq, toNat_cast, Nat.zero_add, Nat.add_zero, Nat.mul_one, List.drop_zero, bCells_len, bCells_drop, bCells_take, bCells_app, bCells_one, bCells_plain, List.length_replicate, List.length_append, List.length_take, List.length_drop, List.take_length, and_true, true_and, and_self, decide_true, List.length_nil, List.length_cons, Nat.sub_zero, dB_mk, dB_ro, List.take_zero]
  refine br_nd (by omega) (br_nd (by omega) (br_nd (by omega) (br_nd (by omega) (br_dec (by omega) ?_))))
  obtain ⟨k, rfl⟩ : ∃ k : Nat, n = k := ⟨n.toNat, by omega⟩
  obtain ⟨u, rfl⟩ : ∃ u : Nat, v = u := ⟨v.toNat, by omega⟩
  have hp : 2 ^ k ≤ 2 ^ 8 := Nat.pow_le_pow_right (by omega) (by omega)
  have hp0 : 0 < 2 ^ k := Nat.two_pow_pos k
  have e : putOut [] k t u = putB t k u := by rw [putOut0 _ _ _ hn]; simp
  rw [e, sh1 k (by omega)]
  refine br_if (fun h => ?_) (fun h => ?_)
  · have h : u < 2 ^ k - 1 := by omega
    rw [head_byte t k u (by omega) (by omega)]
    simp only [putB, if_pos h, bCells_sing, ofNat_eq, toNat_cast, Nat.zero_add, Nat.add_zero, Nat.mul_one, List.drop_zero, bCells_len, bCells_drop, bCells_take, bCells_app, bCells_one, bCells_plain, List.length_replicate, List.length_append, List.length_take, List.length_drop, List.take_length, and_true, true_and, and_self, decide_true, List.length_nil, List.length_cons, Nat.sub_zero, dB_mk, dB_ro, List.take_zero]
  · have h : ¬ u < 2 ^ k - 1 := by omega
    refine ⟨⟨[], [headB t k (2 ^ k - 1)], u - (2 ^ k - 1)⟩, ?_, ?_⟩
    · exact ⟨by simp only; omega, by simp, by simp⟩
    rw [head_byte t k _ (by omega) (by omega)]
    have w : IntKind.i64.wrap ((u : Int) - ((2 ^ k - 1 : Nat) : Int)) = ((u - (2 ^ k - 1) : Nat) : Int) := by rw [wr64_id (by unfold I64; omega)]; omega
    have hl := loop_len (u - (2 ^ k - 1)) (by omega)
    have hv := loopV_lt (u - (2 ^ k - 1))
    simp only [w, bCells_sing, ofNat_eq, toNat_cast, Nat.zero_add, Nat.add_zero, Nat.mul_one, List.drop_zero, bCells_len, bCells_drop, bCells_take, bCells_app, bCells_one, bCells_plain, List.length_replicate, List.length_append, List.length_take, List.length_drop, List.take_length, and_true, true_and, and_self, decide_true, List.length_nil, List.length_cons, Nat.sub_zero, dB_mk, dB_ro, List.take_zero, putB, if_neg h]
    intro _ _
    refine br_dec (by omega) (br_dec (by omega) ⟨by rw [loop_more]; simp; omega, ?_⟩)
    rw [wru8_nat (by omega), bVal_nat (by omega), loop_more, List.take_of_length_le (by simp; omega), bCells_sing, bCells_app]
    simp
theorem u8i_nat (b : UInt8) : u8i (b.toNat : Int) = b := by unfold u8i; simp
theorem isU8_nat (b : UInt8) : IsU8 (b.toNat : Int) := ⟨b, rfl⟩
theorem pad_len (l : List UInt8) (m : UInt8) : (pad80 l m).length = l.length + 80 := by simp [pad80]
set_option maxRecDepth 4000 in
theorem runs_con : Con Try.prog 3 [] [] (.bool true) [] := con_run mixed (n := 1000000) (by kernel_rfl) (by kernel_rfl)
theorem cG_ok : ∀ f a rows p v news, cG f a rows = some (p, v, news) → p → Con Try.prog f a rows v (rows ++ news) := by
  intro f a rows p v news h hp
  unfold cG at h
  split at h <;> simp only [Option.some.injEq, Prod.mk.injEq, reduceCtorEq] at h <;> obtain ⟨rfl, rfl, rfl⟩ := h
  · obtain ⟨⟨x, rfl, rfl⟩, ⟨y, rfl, rfl⟩, hl⟩ := hp
    simp only [dB_ro, List.append_nil]
    exact same_con x y hl
  · obtain ⟨⟨x, rfl, rfl⟩, ⟨m, rfl⟩, hl⟩ := hp
    simp only [dB_ro, u8i_nat]
    exact roomy_con x m hl
  · obtain ⟨⟨x, rfl, rfl⟩, ⟨y, rfl, rfl⟩, ⟨m, rfl⟩, hl, hl2⟩ := hp
    simp only [dB_ro, u8i_nat, List.append_nil]
    exact int_con x y m hl hl2
  · obtain ⟨⟨x, rfl, rfl⟩, ⟨m, rfl⟩, hl⟩ := hp
    simp only [dB_ro, u8i_nat]
    exact put_con x _ m _ hl
  · obtain ⟨⟨m, rfl⟩, hl⟩ := hp
    simp only [u8i_nat]
    exact put0_con _ m _ hl
  · obtain ⟨⟨x, rfl, rfl⟩, ⟨m, rfl⟩, hl⟩ := hp
    simp only [dB_ro, u8i_nat]
    exact ref_con x _ m _ hl
  · obtain ⟨⟨x, rfl, rfl⟩, hl⟩ := hp
    simp only [dB_ro, List.append_nil]
    exact getP_con x _ _ hl
  · obtain ⟨⟨x, rfl, rfl⟩, hl⟩ := hp
    simp only [dB_ro, List.append_nil]
    exact getR_con x _ _ hl
  · exact within_con _ _ _ hp.1 hp.2.1 hp.2.2
  · exact runs_con
theorem more_len (v : Nat) (h : v ≤ 2147483647) : (more v).length ≤ 5 := by
  have := loop_len v h
  rw [loop_more]; simp; omega
theorem isB_own {l : List UInt8} : IsB ⟨bCells l, true, .cells true⟩ l.length := isB_mk _ _ rfl
end Go.Proofs.Ythhahjkekgbhhaa.s3
