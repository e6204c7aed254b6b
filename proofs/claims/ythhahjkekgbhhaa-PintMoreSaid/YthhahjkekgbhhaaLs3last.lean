/- The law of a number whose pieces are followed by empty ones. -/
import Derived.Test.YthhahjkekgbhhaaSz9
import Derived.Test.YthhahjkekgbhhaaRows
import Derived.Test.YthhahjkekgbhhaaLs3more
set_option linter.unusedSimpArgs false
set_option linter.unusedVariables false
namespace Go.Proofs.Ythhahjkekgbhhaa.s3
open Go Go.Ev Go.Sy Go.RowKit Go.Proofs.Ythhahjkekgbhhaa.bk
def pMore : List Nat := [0, 1, 0, 1, 1, 1, 1, 1, 1]
/-- One empty piece more. -/
def step (l : List UInt8) : List UInt8 := l.take (l.length - 1) ++ [UInt8.ofNat (atB l (l.length - 1) ||| 128), 0]
def steps : Nat → List UInt8 → List UInt8
  | 0, l => l
  | n + 1, l => steps n (step l)
structure GMore where
  x : List UInt8
  k : Int
  m : Int
  j : Nat
def slMore (g : GMore) (s : List UInt8 × Nat) : List (Nat × Value) := [(7, .int .i64 g.k), (8, .int .i64 g.m), (9, slc 0 s.1.length), (10, .int .i64 (g.j : Nat)), (11, .int .i64 (s.2 : Nat))]
def rlMore (_ : GMore) (s : List UInt8 × Nat) : List (Nat × Row) := [(0, bOwn s.1)]
def wsMore (g : GMore) : List (Gate Unit) := [⟨.exit 0, fun _ => True, fun _ => [(7, .int .i64 g.k), (8, .int .i64 g.m), (9, slc 0 (steps g.j g.x).length)], fun _ => [(0, bOwn (steps g.j g.x))], 1⟩]
def preMore (g : GMore) : Prop := 1 ≤ g.x.length ∧ g.x.length ≤ 6 ∧ g.j ≤ 6
def specMore : Sy.Spec := specOf 0 1 86 preMore (fun g => slMore g (g.x, 0)) (fun g => rlMore g (g.x, 0)) wsMore
def mMore := mOf [(9, pMore, specMore)]
theorem more_round (g : GMore) (i : List UInt8 × Nat) (Inv : List UInt8 × Nat → Prop) (m : List UInt8 × Nat → Nat) : mev EG noM 60 9 (0 :: pMore) false (codeOf Try.prog 9 (0 :: pMore)) ⟨mkOv (slMore g i), 86, []⟩ none ⟨mkR (rlMore g i), 1⟩ (roundK 0 1 86 Inv m (slMore g) (rlMore g) (wsMore g) i) =
  (br (decide ((↑i.2 : Int) < (↑g.4 : Int)))
   (br (decide ((0 : Int) ≤ IntKind.wrap IntKind.i64 (Int.ofNat (List.length i.1) - (1 : Int)) ∧ IntKind.wrap IntKind.i64 (Int.ofNat (List.length i.1) - (1 : Int)) < (↑(List.length i.1) : Int)))
    ((Eq (α := Option Value) ((bCells i.1)[(0 : Nat) + Int.toNat (IntKind.wrap IntKind.i64 (Int.ofNat (List.length i.1) - (1 : Int))) * (1 : Nat)]?) (some (Value.int IntKind.u8 (cellI (bCells i.1) ((0 : Nat) + Int.toNat (IntKind.wrap IntKind.i64 (Int.ofNat (List.length i.1) - (1 : Int))) * (1 : Nat)))))) ∧
    (br (decide ((0 : Int) ≤ IntKind.wrap IntKind.i64 (Int.ofNat (List.length i.1) - (1 : Int)) ∧ IntKind.wrap IntKind.i64 (Int.ofNat (List.length i.1) - (1 : Int)) < (↑(List.length i.1) : Int)))
     (br (decide ((0 : Nat) + Int.toNat (IntKind.wrap IntKind.i64 (Int.ofNat (List.length i.1) - (1 : Int))) * (1 : Nat) + (1 : Nat) ≤ List.length (bCells i.1)))
      (br (decide (List.length i.1 + (1 : Nat) ≤ (16777216 : Nat)))
       (br (decide ((0 : Nat) + List.length i.1 * (1 : Nat) ≤ List.length (ovr (bCells i.1) ((0 : Nat) + Int.toNat (IntKind.wrap IntKind.i64 (Int.ofNat (List.length i.1) - (1 : Int))) * (1 : Nat)) [Value.int IntKind.u8 (ior IntKind.u8 (cellI (bCells i.1) ((0 : Nat) + Int.toNat (IntKind.wrap IntKind.i64 (Int.ofNat (List.length i.1) - (1 : Int))) * (1 : Nat))) (128 : Int))])))
        (∃ j : List UInt8 × Nat, ((Inv j) ∧
        ((m j < m i) ∧
        ((g.2 = g.2) ∧
        ((g.3 = g.3) ∧
        (((0 : Nat) = (0 : Nat)) ∧
        ((List.length j.1 = List.length i.1 + (1 : Nat)) ∧
        (((↑g.4 : Int) = (↑g.4 : Int)) ∧
        (((↑j.2 : Int) = IntKind.wrap IntKind.i64 ((↑i.2 : Int) + (1 : Int))) ∧
        ((Eq (α := List Value) (bCells j.1) (List.take (List.length i.1 * (1 : Nat)) (List.drop (0 : Nat) (ovr (bCells i.1) ((0 : Nat) + Int.toNat (IntKind.wrap IntKind.i64 (Int.ofNat (List.length i.1) - (1 : Int))) * (1 : Nat)) [Value.int IntKind.u8 (ior IntKind.u8 (cellI (bCells i.1) ((0 : Nat) + Int.toNat (IntKind.wrap IntKind.i64 (Int.ofNat (List.length i.1) - (1 : Int))) * (1 : Nat))) (128 : Int))])) ++ [Value.int IntKind.u8 (0 : Int)])) ∧
        ((Plain (bCells j.1)) ∧
        True)))))))))))
        False)
       False)
      False)
     False))
    False)
   (∃ y : Unit, ((True) ∧
   ((g.2 = g.2) ∧
   ((g.3 = g.3) ∧
   (((0 : Nat) = (0 : Nat)) ∧
   ((List.length (steps g.4 g.1) = List.length i.1) ∧
   ((Eq (α := List Value) (bCells (steps g.4 g.1)) (bCells i.1)) ∧
   ((Plain (bCells (steps g.4 g.1))) ∧
   True))))))))) := by kernel_rfl
theorem more_vc (n v e : Int) : mcall EG mMore 60 9 [.int .i64 n, .int .i64 v, .int .i64 e] ⟨mkR (nums 0 []), 0⟩ (retIs 0 (.bool true) []) =
  ((((True ∧ (True ∧ (True ∧ True))) ∧ (True ∧ ((0 : Int) ≤ (1 : Int) ∧ ((1 : Int) ≤ (8 : Int) ∧ (8 : Int) ≤ (2147483647 : Int)))))) ∧
  (br (decide ((0 : Int) ≤ inside n (1 : Int) (8 : Int)))
   ((((True ∧ (True ∧ (True ∧ True))) ∧ (True ∧ ((0 : Int) ≤ IntKind.wrap IntKind.i64 (ishl IntKind.i64 (1 : Int) (inside n (1 : Int) (8 : Int)) - (1 : Int)) ∧ (IntKind.wrap IntKind.i64 (ishl IntKind.i64 (1 : Int) (inside n (1 : Int) (8 : Int)) - (1 : Int)) ≤ (2147483647 : Int) ∧ (2147483647 : Int) ≤ (2147483647 : Int)))))) ∧
   ((((True ∧ (True ∧ (True ∧ (True ∧ True)))) ∧ ((Plain (bCells (putOut [] (inside n (1 : Int) (8 : Int)) (u8i (0 : Int)) (inside v (IntKind.wrap IntKind.i64 (ishl IntKind.i64 (1 : Int) (inside n (1 : Int) (8 : Int)) - (1 : Int))) (2147483647 : Int)))) ∧ True) ∧ (IsB (Row.mk [] true (Ob.cells true)) (0 : Nat) ∧ (IsU8 (0 : Int) ∧ (0 : Nat) ≤ (16776000 : Nat)))))) ∧
   (br (decide (Int.ofNat (List.length (putOut [] (inside n (1 : Int) (8 : Int)) (u8i (0 : Int)) (inside v (IntKind.wrap IntKind.i64 (ishl IntKind.i64 (1 : Int) (inside n (1 : Int) (8 : Int)) - (1 : Int))) (2147483647 : Int)))) < (2 : Int)))
    ((true = false) ∧
    True)
    ((((True ∧ (True ∧ (True ∧ True))) ∧ (True ∧ ((0 : Int) ≤ (0 : Int) ∧ ((0 : Int) ≤ (6 : Int) ∧ (6 : Int) ≤ (2147483647 : Int)))))) ∧
    (∃ g : GMore, ((preMore g) ∧
    ((g.2 = inside n (1 : Int) (8 : Int)) ∧
    ((g.3 = inside v (IntKind.wrap IntKind.i64 (ishl IntKind.i64 (1 : Int) (inside n (1 : Int) (8 : Int)) - (1 : Int))) (2147483647 : Int)) ∧
    (((0 : Nat) = (0 : Nat)) ∧
    ((List.length g.1 = List.length (putOut [] (inside n (1 : Int) (8 : Int)) (u8i (0 : Int)) (inside v (IntKind.wrap IntKind.i64 (ishl IntKind.i64 (1 : Int) (inside n (1 : Int) (8 : Int)) - (1 : Int))) (2147483647 : Int)))) ∧
    (((↑g.4 : Int) = inside e (0 : Int) (6 : Int)) ∧
    (((↑(0 : Nat) : Int) = (0 : Int)) ∧
    ((Eq (α := List Value) (bCells g.1) (bCells (putOut [] (inside n (1 : Int) (8 : Int)) (u8i (0 : Int)) (inside v (IntKind.wrap IntKind.i64 (ishl IntKind.i64 (1 : Int) (inside n (1 : Int) (8 : Int)) - (1 : Int))) (2147483647 : Int))))) ∧
    ((Plain (bCells g.1)) ∧
    (∀ (y : Unit), ((True) →
    ((((((0 : Nat) + List.length (steps g.4 g.1) * (1 : Nat) ≤ List.length (bCells (steps g.4 g.1)) ∧ Plain (List.take (List.length (steps g.4 g.1) * (1 : Nat)) (List.drop (0 : Nat) (bCells (steps g.4 g.1))))) ∧ (True ∧ (True ∧ True))) ∧ (True ∧ (IsB (Row.mk (List.take (List.length (steps g.4 g.1) * (1 : Nat)) (List.drop (0 : Nat) (bCells (steps g.4 g.1)))) true (Ob.cells true)) (List.length (steps g.4 g.1)) ∧ List.length (steps g.4 g.1) ≤ (9223372036854775807 : Nat))))) ∧
    (br (decide (IntKind.wrap IntKind.i64 (Int.ofNat (List.length (steps g.4 g.1)) - (1 : Int)) > (5 : Int)))
     (br ((↑(getOut (dB (Row.mk (List.take (List.length (steps g.4 g.1) * (1 : Nat)) (List.drop (0 : Nat) (bCells (steps g.4 g.1)))) true (Ob.cells true))) (0 : Int) g.2).1 : Int) == (0 : Int))
      (br ((↑(getOut (dB (Row.mk (List.take (List.length (steps g.4 g.1) * (1 : Nat)) (List.drop (0 : Nat) (bCells (steps g.4 g.1)))) true (Ob.cells true))) (0 : Int) g.2).2.1 : Int) == (0 : Int))
       (br ((↑(getOut (dB (Row.mk (List.take (List.length (steps g.4 g.1) * (1 : Nat)) (List.drop (0 : Nat) (bCells (steps g.4 g.1)))) true (Ob.cells true))) (0 : Int) g.2).2.2 : Int) == (2 : Int))
        (((True ∧ (True ∧ True))) ∧
        ((true = true) ∧
        True))
        ((true = false) ∧
        True))
       ((true = false) ∧
       True))
      ((true = false) ∧
      True))
     (br ((↑(getOut (dB (Row.mk (List.take (List.length (steps g.4 g.1) * (1 : Nat)) (List.drop (0 : Nat) (bCells (steps g.4 g.1)))) true (Ob.cells true))) (0 : Int) g.2).1 : Int) == g.3)
      (br ((↑(getOut (dB (Row.mk (List.take (List.length (steps g.4 g.1) * (1 : Nat)) (List.drop (0 : Nat) (bCells (steps g.4 g.1)))) true (Ob.cells true))) (0 : Int) g.2).2.1 : Int) == Int.ofNat (List.length (steps g.4 g.1)))
       (br ((↑(getOut (dB (Row.mk (List.take (List.length (steps g.4 g.1) * (1 : Nat)) (List.drop (0 : Nat) (bCells (steps g.4 g.1)))) true (Ob.cells true))) (0 : Int) g.2).2.2 : Int) == (0 : Int))
        (((True ∧ (True ∧ True))) ∧
        ((true = true) ∧
        True))
        ((true = false) ∧
        True))
       ((true = false) ∧
       True))
      ((true = false) ∧
      True))))))))))))))))))))
   False)) := by kernel_rfl

theorem or128 : ∀ a : Fin 128, a.1 ||| 128 = a.1 + 128 := by decide +kernel
theorem or_lt {a : Nat} (h : a < 256) : a ||| 128 < 256 := by
  have := Nat.or_lt_two_pow (x := a) (y := 128) (n := 8) (by omega) (by omega)
  omega
theorem step_len (l : List UInt8) (h : 1 ≤ l.length) : (step l).length = l.length + 1 := by unfold step; simp; omega
theorem steps_len : ∀ (n : Nat) (l : List UInt8), 1 ≤ l.length → (steps n l).length = l.length + n
  | 0, l, _ => rfl
  | n + 1, l, h => by rw [steps, steps_len n _ (by rw [step_len l h]; omega), step_len l h]; omega
def invMore (g : GMore) (s : List UInt8 × Nat) : Prop := s.2 ≤ g.j ∧ s.1.length = g.x.length + s.2 ∧ steps (g.j - s.2) s.1 = steps g.j g.x
def msMore (g : GMore) (s : List UInt8 × Nat) : Nat := g.j - s.2
theorem more_piece : PieceOk EG 0 (9, pMore, specMore) := by
  refine piece_loop mixed (calls_envC cG_ok) (lok_envC _ _ _) lm_none (n := 60) (by kernel_rfl) (fun g : GMore => ((g.x, 0) : List UInt8 × Nat)) invMore msMore (sl := slMore) (rl := rlMore) (fun g hg => ⟨Nat.zero_le _, rfl, rfl⟩) (fun g s hg hi => ?_)
  refine (more_round g s _ _).mpr ?_
  obtain ⟨l, i⟩ := s
  obtain ⟨h1, h2, h3⟩ := hi
  obtain ⟨hg1, hg2, hg3⟩ := hg
  simp only at h1 h2 h3
  have w1 : IntKind.i64.wrap ((l.length : Int) - 1) = ((l.length - 1 : Nat) : Int) := by rw [wr64_id (by unfold I64; omega)]; omega
  have w2 : IntKind.i64.wrap ((i : Int) + 1) = ((i + 1 : Nat) : Int) := by rw [wr64_id (by unfold I64; omega)]; omega
  have hl : l.length - 1 < l.length := by omega
  have ec : cellI (bCells l) (l.length - 1) = (atB l (l.length - 1) : Nat) := bCells_cell hl
  have e1 := bCells_at hl
  have hc := atB_lt l (l.length - 1)
  have e2 : Value.int .u8 (ior .u8 ((atB l (l.length - 1) : Nat) : Int) 128) = bVal (UInt8.ofNat (atB l (l.length - 1) ||| 128)) := by
    rw [show (128 : Int) = ((128 : Nat) : Int) from rfl, ior8_nat hc (by omega), bVal_nat (or_lt hc)]
  have e3 : Value.int .u8 0 = bVal 0 := rfl
  have e4 : ovr (bCells l) (l.length - 1) [bVal (UInt8.ofNat (atB l (l.length - 1) ||| 128))] = bCells (l.take (l.length - 1) ++ [UInt8.ofNat (atB l (l.length - 1) ||| 128)]) := by
    unfold ovr
    rw [bCells_take, bCells_sing, bCells_drop, List.drop_eq_nil_of_le (by rw [bCells_len, List.length_singleton]; omega), show bCells [] = [] from rfl, List.append_nil, bCells_app]
  simp only [ofNat_eq, toNat_cast, Nat.zero_add, Nat.add_zero, Nat.mul_one, List.drop_zero, bCells_len, bCells_drop, bCells_take, bCells_app, bCells_one, bCells_plain, List.length_replicate, List.length_append, List.length_take, List.length_drop, List.take_length, and_true, true_and, and_self, decide_true, List.length_nil, List.length_cons, Nat.sub_zero, dB_mk, dB_ro, List.take_zero, w1, w2, ec, e1, e2, e3, e4]
  refine br_if (fun h => ?_) (fun h => ?_)
  · refine br_dec (by omega) (br_dec (by omega) (br_dec (by omega) (br_dec (by omega) (br_dec (by omega) ⟨(step l, i + 1), ?_, ?_, ?_, rfl, ?_⟩))))
    · refine ⟨by simp only; omega, by simp only; rw [step_len l (by omega)]; omega, ?_⟩
      simp only
      rw [← h3, show g.j - i = (g.j - (i + 1)) + 1 by omega]; rfl
    · unfold msMore; simp only; omega
    · simp only; exact step_len l (by omega)
    · simp only
      rw [List.take_of_length_le (by simp; omega), bCells_sing, bCells_app]
      unfold step; simp
  · have : g.j = i := by omega
    rw [this, Nat.sub_self] at h3
    rw [this, ← h3]
    exact ⟨(), rfl, rfl⟩
theorem enc_app (d : Nat) : ∀ l : List Nat, enc (l ++ [d]) = l.map (fun x => UInt8.ofNat (x + 128)) ++ [UInt8.ofNat d]
  | [] => rfl
  | [x] => rfl
  | x :: y :: l => by
    have := enc_app d (y :: l)
    rw [List.cons_append, List.cons_append, enc, ← List.cons_append, this]; rfl
theorem step_last (l : List UInt8) (c : UInt8) : step (l ++ [c]) = l ++ [UInt8.ofNat (c.toNat ||| 128), 0] := by
  have e : atB (l ++ [c]) ((l ++ [c]).length - 1) = c.toNat := by unfold atB; simp [List.getD]
  unfold step; rw [e]; simp
theorem step_enc (b : UInt8) (l : List Nat) (h : l ≠ []) (hd : ∀ x ∈ l, x < 128) : step (b :: enc l) = b :: enc (l ++ [0]) := by
  rw [← List.dropLast_concat_getLast h] at hd ⊢
  generalize l.dropLast = q at *
  generalize l.getLast h = d at *
  have hd0 := hd d (by simp)
  rw [enc_app, enc_app, ← List.cons_append, step_last, u8_toNat_ofNat (by omega), or128 ⟨d, hd0⟩]
  simp
theorem steps_enc (b : UInt8) : ∀ (n : Nat) (l : List Nat), l ≠ [] → (∀ x ∈ l, x < 128) → steps n (b :: enc l) = b :: enc (l ++ List.replicate n 0)
  | 0, l, _, _ => by simp [steps]
  | n + 1, l, h, hd => by
    rw [steps, step_enc b l h hd, steps_enc b n (l ++ [0]) (by simp) (fun x hx => by
      rcases List.mem_append.1 hx with h | h
      · exact hd x h
      · simp at h; omega), List.replicate_succ, List.append_assoc]; rfl
theorem val_zeros (n : Nat) : val (List.replicate n 0) = 0 := by
  induction n with
  | zero => rfl
  | succ n ih => rw [List.replicate_succ, val, ih]
theorem val_pad (n : Nat) : ∀ l : List Nat, val (l ++ List.replicate n 0) = val l
  | [] => val_zeros n
  | d :: l => by rw [List.cons_append, val, val_pad n l, val]
/-- What Get reads of a number with empty pieces behind. -/
theorem get_more (k m j : Nat) (hk0 : 1 ≤ k) (hk : k ≤ 8) (hm : m ≤ 2147483647) (hm2 : 2 ^ k - 1 ≤ m) :
    (steps j (putB 0 k m)).length = (putB 0 k m).length + j ∧ getOut (steps j (putB 0 k m)) 0 k = if (putB 0 k m).length + j ≤ 6 then (m, (putB 0 k m).length + j, 0) else (0, 0, 2) := by
  have hp : 2 ^ k ≤ 2 ^ 8 := Nat.pow_le_pow_right (by omega) hk
  have hp0 : 0 < 2 ^ k := Nat.two_pow_pos k
  refine ⟨steps_len j _ (putB_pos _ _ _), ?_⟩
  have e : putB 0 k m = headB 0 k (2 ^ k - 1) :: enc (digs (m - (2 ^ k - 1))) := by unfold putB; rw [if_neg (by omega), digs_enc]
  rw [e, steps_enc _ j _ (digs_ne _) (digs_lt _)]
  generalize hq : digs (m - (2 ^ k - 1)) = q
  have hv : val q = m - (2 ^ k - 1) := by rw [← hq, digs_val]
  have hq0 : q ≠ [] := by rw [← hq]; exact digs_ne _
  have hqd : ∀ d ∈ q, d < 128 := by rw [← hq]; exact digs_lt _
  have ha : atB (headB 0 k (2 ^ k - 1) :: enc (q ++ List.replicate j 0)) 0 = (headB 0 k (2 ^ k - 1)).toNat := by unfold atB; simp [List.getD]
  unfold getOut
  rw [if_neg (by simp; omega), if_neg (by simp; omega)]
  rw [show (0 : Int).toNat = 0 from rfl, ha, toNat_cast, head_mod 0 k (2 ^ k - 1) hk (by omega), if_neg (by omega)]
  rw [getL_enc _ (q ++ List.replicate j 0) 5 (0 + 1) (2 ^ k - 1) [] (by simp [hq0]) (fun d hd => by
    rcases List.mem_append.1 hd with h | h
    · exact hqd d h
    · have := List.eq_of_mem_replicate h; omega) (Nat.le_refl _) (by simp) (by rw [val_pad, hv]; simp; omega), val_pad, hv]
  simp only [List.length_append, List.length_replicate, List.length_cons, enc_len]
  split
  · rw [if_pos (by omega)]; simp; omega
  · rw [if_neg (by omega)]
theorem more_law (n v e : Int) (_ : I64 n) (_ : I64 v) (_ : I64 e) : Con Try.prog 9 [.int .i64 n, .int .i64 v, .int .i64 e] [] (.bool true) [] := by
  refine con_vc (E := EG) mixed (calls_envC cG_ok) (lok_envC _ _ _) (M := mMore) (lm_one more_piece) (more_vc n v e) ?_
  have hk := inside_in n 1 8 (by omega)
  generalize inside n 1 8 = k at *
  obtain ⟨k, rfl⟩ : ∃ j : Nat, k = j := ⟨k.toNat, by omega⟩
  have hp : 2 ^ k ≤ 2 ^ 8 := Nat.pow_le_pow_right (by omega) (by omega)
  have hp0 : 0 < 2 ^ k := Nat.two_pow_pos k
  rw [sh1 k (by omega)]
  have hm := inside_in v ((2 ^ k - 1 : Nat) : Int) 2147483647 (by omega)
  have hj := inside_in e 0 6 (by omega)
  generalize inside v ((2 ^ k - 1 : Nat) : Int) 2147483647 = m at *
  generalize inside e 0 6 = j at *
  obtain ⟨m, rfl⟩ : ∃ j : Nat, m = j := ⟨m.toNat, by omega⟩
  obtain ⟨j, rfl⟩ : ∃ i : Nat, j = i := ⟨j.toNat, by omega⟩
  have hB : IsB { cells := [], ro := true, ob := Ob.cells true } 0 := ⟨[], rfl, rfl⟩
  have h0 : IsU8 0 := ⟨0, rfl⟩
  have e4 : u8i 0 = 0 := rfl
  have p1 : 2 ≤ (putB 0 k m).length := by
    rw [putB_len, if_neg (by omega), loop_more]; simp
  have p2 := putB_le 0 k m (by omega)
  obtain ⟨g1, g2⟩ := get_more k m j (by omega) (by omega) (by omega) (by omega)
  simp only [e4, putOut_app [] 0 k m (by omega), List.nil_append, ofNat_eq, toNat_cast, Nat.zero_add, Nat.add_zero, Nat.mul_one, List.drop_zero, bCells_len, bCells_drop, bCells_take, bCells_app, bCells_one, bCells_plain, List.length_replicate, List.length_append, List.length_take, List.length_drop, List.take_length, and_true, true_and, and_self, decide_true, List.length_nil, List.length_cons, Nat.sub_zero, dB_mk, dB_ro, List.take_zero, hB, h0]
  refine ⟨by omega, br_dec (by omega) ⟨by omega, by omega, br_nd (by omega) ⟨by omega, ⟨putB 0 k m, k, m, j⟩, ⟨by simp only; omega, by simp only; omega, by simp only; omega⟩, rfl, rfl, rfl, rfl, rfl, rfl, fun _ _ => ?_⟩⟩⟩
  simp only [g1, g2]
  have q1 : IsB { cells := bCells (steps j (putB 0 k m)), ro := true, ob := Ob.cells true } ((putB 0 k m).length + j) := isB_mk _ _ g1.symm
  have w : IntKind.i64.wrap ((((putB 0 k m).length + j : Nat) : Int) - 1) = (((putB 0 k m).length + j - 1 : Nat) : Int) := by rw [wr64_id (by unfold I64; omega)]; omega
  rw [w]
  refine ⟨⟨by omega, q1, by omega⟩, ?_⟩
  by_cases h : (putB 0 k m).length + j ≤ 6
  · simp only [if_pos h]
    exact br_nd (by omega) (br_b (by simp) (br_b (by simp) (br_b (by simp) trivial)))
  · simp only [if_neg h]
    exact br_dec (by omega) (br_b (by simp) (br_b (by simp) (br_b (by simp) trivial)))
end Go.Proofs.Ythhahjkekgbhhaa.s3
