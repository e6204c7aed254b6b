/- A list's elements, by the document. -/
import Derived.Test.YtajfdcijpchjdaaSz9
import Derived.Test.YtajfdcijpchjdaaRows
import Derived.Test.YtajfdcijpchjdaaLk13
set_option maxRecDepth 20000
set_option linter.unusedSimpArgs false
set_option linter.unusedVariables false
namespace Go.Proofs.Ytajfdcijpchjdaa.tk
open Go Go.Ev Go.Sy Go.RowKit Go.Proofs.Ytajfdcijpchjdaa.gl
def cRs : FuncId → List Value → List Row → Option (Prop × Value × List Row)
  | 33, [.string s], [] => some ((L s).length ≤ maxLen, .string (trimS s), [])
  | _, _, _ => none
noncomputable abbrev ERs : Env := envC Try.prog cRs (fun f => Nat.beq f 33)
def pRs : List Nat := [0, 1, 0, 1, 1, 1, 1]
structure StRs where
  acc : List (List UInt8)
  st : Nat
  q : Bool
  i : Nat
def slRs (l : List UInt8) (s : StRs) : List (Nat × Value) := [(0, .string (bs l)), (4, .slice (some ⟨0, 0, none⟩) s.acc.length 1), (5, .int .i64 (s.st : Nat)), (6, .bool s.q), (7, .int .i64 (s.i : Nat))]
def rlRs (_ : List UInt8) (s : StRs) : List (Nat × Row) := [(0, gOwn enS s.acc)]
def endRs (l : List UInt8) (acc : List (List UInt8)) (q : Bool) : Prop := (q = true → splitL l = none) ∧ (q = false → splitL l = some acc)
def wsRs (l : List UInt8) : List (Gate StRs) := [⟨.exit 0, fun s => endRs l s.acc s.q, fun s => [(4, .slice (some ⟨0, 0, none⟩) s.acc.length 1), (6, .bool s.q)], fun s => [(0, gOwn enS s.acc)], 1⟩, ⟨.ret, fun _ => splitL l = none, fun _ => [(2, .slice none 0 0), (3, .bool false)], fun _ => [], 0⟩]
def specRs : Sy.Spec := specOf 0 1 65 (fun l : List UInt8 => l.length ≤ 16777000) (fun l => slRs l ⟨[], 0, false, 0⟩) (fun l => rlRs l ⟨[], 0, false, 0⟩) wsRs
def mRs := mOf [(19, pRs, specRs)]
def invRs (l : List UInt8) (s : StRs) : Prop := (s.i ≤ l.length ∧ s.st ≤ s.i ∧ s.acc.length ≤ s.st ∧ splitL l = (spl s.q ((l.take s.i).drop s.st) (l.drop s.i)).map fun r => s.acc ++ r) ∨ (s.i = l.length + 1 ∧ endRs l s.acc s.q)
theorem Rs_round (l : List UInt8) (s : StRs) (Inv : StRs → Prop) (m : StRs → Nat) : mev ERs noM 60 19 (0 :: pRs) false (codeOf Try.prog 19 (0 :: pRs)) ⟨mkOv (slRs l s), 65, []⟩ none ⟨mkR (rlRs l s), 1⟩ (roundK 0 1 65 Inv m (slRs l) (rlRs l) (wsRs l) s) =
  let z1 := (List.length (Array.toList (ByteArray.data (bs l)))); let z2 := (sub (bs l) (Int.toNat (↑s.2 : Int)) (Int.toNat (↑s.4 : Int))); let z3 := (decide ((0 : Int) <=
  (↑s.4 : Int) /\ (↑s.4 : Int) < (↑z1 : Int))); let z4 := (decide ((0 : Int) <= (↑s.2 : Int) /\ (↑s.2 : Int) <= (↑s.4 : Int) /\ (↑s.4 : Int) <= (↑z1 : Int))); let z5 :=
  (List.take (List.length s.1 * 1) (List.drop 0 (gC enS s.1)) ++ [Value.string (trimS z2)]); let z6 := (((True /\ True) /\ (True /\ List.length (L z2) <=
  9223372036854775807))); let z7 := (decide (0 + List.length s.1 * 1 <= List.length (gC enS s.1))); let z8 := (byteAt (bs l) (Int.toNat (↑s.4 : Int)) == (34 : Int)); let z9
  := (byteAt (bs l) (Int.toNat (↑s.4 : Int)) == (44 : Int)); (br (decide ((↑s.4 : Int) <= Int.ofNat z1)) (br (decide ((↑s.4 : Int) < Int.ofNat z1)) (br (s.3) (br z3 (br
  (byteAt (bs l) (Int.toNat (↑s.4 : Int)) == (92 : Int)) (br (decide (IntKind.wrap IntKind.i64 ((↑s.4 : Int) + (1 : Int)) ≥ Int.ofNat z1)) (∃ y : StRs, ((Eq (α := Option
  (List (List UInt8))) (splitL l) (none)) /\ ((false = false) /\ True))) (∃ j : StRs, ((Inv j) /\ ((m j < m s) /\ ((bs l = bs l) /\ ((0 = 0) /\ ((List.length j.1 =
  List.length s.1) /\ (((↑j.2 : Int) = (↑s.2 : Int)) /\ ((j.3 = s.3) /\ (((↑j.4 : Int) = IntKind.wrap IntKind.i64 (IntKind.wrap IntKind.i64 ((↑s.4 : Int) + (1 : Int)) + (1 :
  Int))) /\ ((Eq (α := List Value) (gC enS j.1) (gC enS s.1)) /\ ((Plain (gC enS j.1)) /\ True)))))))))))) (br z3 (br z8 (∃ j : StRs, ((Inv j) /\ ((m j < m s) /\ ((bs l = bs
  l) /\ ((0 = 0) /\ ((List.length j.1 = List.length s.1) /\ (((↑j.2 : Int) = (↑s.2 : Int)) /\ ((j.3 = false) /\ (((↑j.4 : Int) = IntKind.wrap IntKind.i64 ((↑s.4 : Int) + (1
  : Int))) /\ ((Eq (α := List Value) (gC enS j.1) (gC enS s.1)) /\ ((Plain (gC enS j.1)) /\ True))))))))))) (∃ j : StRs, ((Inv j) /\ ((m j < m s) /\ ((bs l = bs l) /\ ((0 =
  0) /\ ((List.length j.1 = List.length s.1) /\ (((↑j.2 : Int) = (↑s.2 : Int)) /\ ((j.3 = s.3) /\ (((↑j.4 : Int) = IntKind.wrap IntKind.i64 ((↑s.4 : Int) + (1 : Int))) /\
  ((Eq (α := List Value) (gC enS j.1) (gC enS s.1)) /\ ((Plain (gC enS j.1)) /\ True)))))))))))) False)) False) (br ((↑s.4 : Int) == Int.ofNat z1) (br z4 (z6 /\ (br (!strEq
  (trimS z2) (ByteArray.mk #[])) (br (decide (List.length s.1 + 1 <= 16777216)) (br z7 (∃ j : StRs, ((Inv j) /\ ((m j < m s) /\ ((bs l = bs l) /\ ((0 = 0) /\ ((List.length
  j.1 = List.length s.1 + 1) /\ (((↑j.2 : Int) = IntKind.wrap IntKind.i64 ((↑s.4 : Int) + (1 : Int))) /\ ((j.3 = s.3) /\ (((↑j.4 : Int) = IntKind.wrap IntKind.i64 ((↑s.4 :
  Int) + (1 : Int))) /\ ((Eq (α := List Value) (gC enS j.1) z5) /\ ((Plain (gC enS j.1)) /\ True))))))))))) False) False) (∃ j : StRs, ((Inv j) /\ ((m j < m s) /\ ((bs l =
  bs l) /\ ((0 = 0) /\ ((List.length j.1 = List.length s.1) /\ (((↑j.2 : Int) = IntKind.wrap IntKind.i64 ((↑s.4 : Int) + (1 : Int))) /\ ((j.3 = s.3) /\ (((↑j.4 : Int) =
  IntKind.wrap IntKind.i64 ((↑s.4 : Int) + (1 : Int))) /\ ((Eq (α := List Value) (gC enS j.1) (gC enS s.1)) /\ ((Plain (gC enS j.1)) /\ True))))))))))))) False) (br z3 (br
  z9 (br z4 (z6 /\ (br (!strEq (trimS z2) (ByteArray.mk #[])) (br (decide (List.length s.1 + 1 <= 16777216)) (br z7 (∃ j : StRs, ((Inv j) /\ ((m j < m s) /\ ((bs l = bs l)
  /\ ((0 = 0) /\ ((List.length j.1 = List.length s.1 + 1) /\ (((↑j.2 : Int) = IntKind.wrap IntKind.i64 ((↑s.4 : Int) + (1 : Int))) /\ ((j.3 = s.3) /\ (((↑j.4 : Int) =
  IntKind.wrap IntKind.i64 ((↑s.4 : Int) + (1 : Int))) /\ ((Eq (α := List Value) (gC enS j.1) z5) /\ ((Plain (gC enS j.1)) /\ True))))))))))) False) False) (∃ j : StRs,
  ((Inv j) /\ ((m j < m s) /\ ((bs l = bs l) /\ ((0 = 0) /\ ((List.length j.1 = List.length s.1) /\ (((↑j.2 : Int) = IntKind.wrap IntKind.i64 ((↑s.4 : Int) + (1 : Int))) /\
  ((j.3 = s.3) /\ (((↑j.4 : Int) = IntKind.wrap IntKind.i64 ((↑s.4 : Int) + (1 : Int))) /\ ((Eq (α := List Value) (gC enS j.1) (gC enS s.1)) /\ ((Plain (gC enS j.1)) /\
  True))))))))))))) False) (br z3 (br z8 (∃ j : StRs, ((Inv j) /\ ((m j < m s) /\ ((bs l = bs l) /\ ((0 = 0) /\ ((List.length j.1 = List.length s.1) /\ (((↑j.2 : Int) =
  (↑s.2 : Int)) /\ ((j.3 = true) /\ (((↑j.4 : Int) = IntKind.wrap IntKind.i64 ((↑s.4 : Int) + (1 : Int))) /\ ((Eq (α := List Value) (gC enS j.1) (gC enS s.1)) /\ ((Plain (gC
  enS j.1)) /\ True))))))))))) (∃ j : StRs, ((Inv j) /\ ((m j < m s) /\ ((bs l = bs l) /\ ((0 = 0) /\ ((List.length j.1 = List.length s.1) /\ (((↑j.2 : Int) = (↑s.2 : Int))
  /\ ((j.3 = s.3) /\ (((↑j.4 : Int) = IntKind.wrap IntKind.i64 ((↑s.4 : Int) + (1 : Int))) /\ ((Eq (α := List Value) (gC enS j.1) (gC enS s.1)) /\ ((Plain (gC enS j.1)) /\
  True)))))))))))) False)) False))) (br ((↑s.4 : Int) == Int.ofNat z1) (br z4 (z6 /\ (br (!strEq (trimS z2) (ByteArray.mk #[])) (br (decide (List.length s.1 + 1 <=
  16777216)) (br z7 (∃ j : StRs, ((Inv j) /\ ((m j < m s) /\ ((bs l = bs l) /\ ((0 = 0) /\ ((List.length j.1 = List.length s.1 + 1) /\ (((↑j.2 : Int) = IntKind.wrap
  IntKind.i64 ((↑s.4 : Int) + (1 : Int))) /\ ((j.3 = s.3) /\ (((↑j.4 : Int) = IntKind.wrap IntKind.i64 ((↑s.4 : Int) + (1 : Int))) /\ ((Eq (α := List Value) (gC enS j.1) z5)
  /\ ((Plain (gC enS j.1)) /\ True))))))))))) False) False) (∃ j : StRs, ((Inv j) /\ ((m j < m s) /\ ((bs l = bs l) /\ ((0 = 0) /\ ((List.length j.1 = List.length s.1) /\
  (((↑j.2 : Int) = IntKind.wrap IntKind.i64 ((↑s.4 : Int) + (1 : Int))) /\ ((j.3 = s.3) /\ (((↑j.4 : Int) = IntKind.wrap IntKind.i64 ((↑s.4 : Int) + (1 : Int))) /\ ((Eq (α
  := List Value) (gC enS j.1) (gC enS s.1)) /\ ((Plain (gC enS j.1)) /\ True))))))))))))) False) (br z3 (br z9 (br z4 (z6 /\ (br (!strEq (trimS z2) (ByteArray.mk #[])) (br
  (decide (List.length s.1 + 1 <= 16777216)) (br z7 (∃ j : StRs, ((Inv j) /\ ((m j < m s) /\ ((bs l = bs l) /\ ((0 = 0) /\ ((List.length j.1 = List.length s.1 + 1) /\
  (((↑j.2 : Int) = IntKind.wrap IntKind.i64 ((↑s.4 : Int) + (1 : Int))) /\ ((j.3 = s.3) /\ (((↑j.4 : Int) = IntKind.wrap IntKind.i64 ((↑s.4 : Int) + (1 : Int))) /\ ((Eq (α
  := List Value) (gC enS j.1) z5) /\ ((Plain (gC enS j.1)) /\ True))))))))))) False) False) (∃ j : StRs, ((Inv j) /\ ((m j < m s) /\ ((bs l = bs l) /\ ((0 = 0) /\
  ((List.length j.1 = List.length s.1) /\ (((↑j.2 : Int) = IntKind.wrap IntKind.i64 ((↑s.4 : Int) + (1 : Int))) /\ ((j.3 = s.3) /\ (((↑j.4 : Int) = IntKind.wrap IntKind.i64
  ((↑s.4 : Int) + (1 : Int))) /\ ((Eq (α := List Value) (gC enS j.1) (gC enS s.1)) /\ ((Plain (gC enS j.1)) /\ True))))))))))))) False) (br z3 (br z8 (∃ j : StRs, ((Inv j)
  /\ ((m j < m s) /\ ((bs l = bs l) /\ ((0 = 0) /\ ((List.length j.1 = List.length s.1) /\ (((↑j.2 : Int) = (↑s.2 : Int)) /\ ((j.3 = true) /\ (((↑j.4 : Int) = IntKind.wrap
  IntKind.i64 ((↑s.4 : Int) + (1 : Int))) /\ ((Eq (α := List Value) (gC enS j.1) (gC enS s.1)) /\ ((Plain (gC enS j.1)) /\ True))))))))))) (∃ j : StRs, ((Inv j) /\ ((m j < m
  s) /\ ((bs l = bs l) /\ ((0 = 0) /\ ((List.length j.1 = List.length s.1) /\ (((↑j.2 : Int) = (↑s.2 : Int)) /\ ((j.3 = s.3) /\ (((↑j.4 : Int) = IntKind.wrap IntKind.i64
  ((↑s.4 : Int) + (1 : Int))) /\ ((Eq (α := List Value) (gC enS j.1) (gC enS s.1)) /\ ((Plain (gC enS j.1)) /\ True)))))))))))) False)) False))) (∃ y : StRs, ((endRs l y.1
  y.3) /\ ((0 = 0) /\ ((List.length y.1 = List.length s.1) /\ ((y.3 = s.3) /\ ((Eq (α := List Value) (gC enS y.1) (gC enS s.1)) /\ ((Plain (gC enS y.1)) /\ True)))))))) := by kernel_rfl
theorem Rs_vc (l : List UInt8) : mcall ERs mRs 60 19 [.string (bs l)] ⟨mkR (nums 0 []), 0⟩ (retIs 0 (.tuple #[.slice (some ⟨0, 0, none⟩) (elSp l).length 1, .bool (okSp l)]) [gOwn enS (elSp l)]) =
  let z1 := ((List.length (elSp l) = 0) /\ ((okSp l = false) /\ ((Eq (α := List Value) (gC enS (elSp l)) ([])) /\ True))); (∃ g : List UInt8, ((List.length g <= 16777000) /\
  ((bs g = bs l) /\ ((0 = 0) /\ (((0 : Int) = (0 : Int)) /\ ((false = false) /\ (((0 : Int) = (0 : Int)) /\ ((Eq (α := List Value) ([]) ([])) /\ (∀ (side : Bool), (br (side)
  (∀ (y : StRs), ((endRs g y.1 y.3) → (br (y.3) z1 ((0 = 0) /\ ((List.length (elSp l) = List.length y.1) /\ ((okSp l = true) /\ ((Eq (α := List Value) (gC enS (elSp l)) (gC
  enS y.1)) /\ ((Plain (gC enS (elSp l))) /\ True)))))))) (∀ (y : StRs), ((splitL g = none) → z1)))))))))))) := by kernel_rfl
theorem cRs_ok : ∀ f a rows p v news, cRs f a rows = some (p, v, news) → p → Con Try.prog f a rows v (rows ++ news) := by
  intro f a rows p v news h hp
  unfold cRs at h
  split at h <;> simp only [Option.some.injEq, Prod.mk.injEq, reduceCtorEq] at h <;> obtain ⟨rfl, rfl, rfl⟩ := h
  exact Rtm_con (L _) hp
theorem Rs_piece : PieceOk ERs 0 (19, pRs, specRs) := by
  refine piece_loop mixed (calls_envC cRs_ok) (lok_envC _ _ _) lm_none (n := 60) (by kernel_rfl) (fun _ : List UInt8 => (⟨[], 0, false, 0⟩ : StRs)) invRs (fun l s => l.length + 1 - s.i) (sl := slRs) (rl := rlRs) (fun l hg => .inl ⟨Nat.zero_le _, Nat.le_refl _, Nat.le_refl _, by simp [splitL]⟩) (fun l s hg hi => ?_)
  refine (Rs_round l s _ _).mpr ?_
  obtain ⟨acc, st, q, i⟩ := s
  have hm : maxLen = 9223372036854775807 := by unfold maxLen; rfl
  simp only [ofNat_eq, toNat_cast, Nat.zero_add, Nat.add_zero, Nat.mul_one, List.drop_zero, bCells_len, bCells_drop, bCells_take, bCells_app, bCells_one, bCells_plain, List.length_replicate, List.length_append, List.length_take, List.length_drop, List.take_length, and_true, true_and, and_self, decide_true, List.length_nil, List.length_cons, Nat.sub_zero, dB_mk, dB_ro, List.take_zero, bs_d, sPl, sLen, bs_nil, strEq_bs, trimS_bs]
  rcases hi with ⟨h1, h2, h3, h4⟩ | ⟨h1, h2⟩
  rotate_left
  · simp only at h1 h2
    subst h1
    exact br_nd (by omega) ⟨⟨acc, st, q, 0⟩, h2, rfl, rfl, rfl⟩
  simp only at h1 h2 h3 h4
  refine br_dec (by omega) ?_
  have hsub : sub (bs l) st i = bs ((l.take i).drop st) := by rw [sub_bs, List.drop_take]
  have hlen : ((l.take i).drop st).length ≤ 9223372036854775807 := by simp; omega
  have w := i64_succ (show i < 9223372036854775807 by omega)
  have w2 := i64_succ (show i + 1 < 9223372036854775807 by omega)
  simp only [w, w2, hsub, bs_len, trimS_bs, strEq_bs]
  refine br_if (fun h => ?_) (fun h => ?_)
  rotate_left
  · have hl : i = l.length := by omega
    subst hl
    rw [List.drop_length, spl_nil] at h4
    refine br_b (by simp) (br_dec (by omega) ⟨hlen, br_intro (fun k3 => br_dec (by omega) (br_dec (Nat.le_refl _) ?_)) (fun k3 => ?_)⟩)
    · have hne : trimL ((l.take l.length).drop st) ≠ [] := by simpa using k3
      have ha : addEl ((l.take l.length).drop st) = [trimL ((l.take l.length).drop st)] := by unfold addEl; rw [if_neg hne]
      rw [ha] at h4
      refine ⟨⟨acc ++ [trimL ((l.take l.length).drop st)], l.length + 1, q, l.length + 1⟩, .inr ⟨rfl, fun hq => ?_, fun hq => ?_⟩, by simp only; omega, by simp, rfl, rfl, rfl, ?_⟩
      · simp only at hq; subst hq; simpa using h4
      · simp only at hq; subst hq; simpa using h4
      · rw [sTake, sOne1, gC_app]
    · have hne : trimL ((l.take l.length).drop st) = [] := by simpa using k3
      have ha : addEl ((l.take l.length).drop st) = [] := by unfold addEl; rw [if_pos hne]
      rw [ha] at h4
      refine ⟨⟨acc, l.length + 1, q, l.length + 1⟩, .inr ⟨rfl, fun hq => ?_, fun hq => ?_⟩, by simp only; omega, rfl, rfl, rfl, rfl, rfl⟩
      · simp only at hq; subst hq; simpa using h4
      · simp only at hq; subst hq; simpa using h4
  have hi : i < l.length := by omega
  simp only [byteAt_bs hi]
  have hd := List.drop_eq_getElem_cons hi
  rw [hd] at h4
  obtain ⟨c, hc⟩ : ∃ c, c = l[i] := ⟨_, rfl⟩
  rw [← hc] at h4 ⊢
  have hcur : (l.take (i + 1)).drop st = (l.take i).drop st ++ [c] := by
    rw [List.take_succ_eq_append_getElem hi, ← hc, List.drop_append_of_le_length (by simp; omega)]
  have hB : ∀ n : Nat, n < 256 → ((c.toNat : Int) == (n : Int)) = true → c = UInt8.ofNat n := fun n hn h => (u8_nat hn).1 (by simpa using h)
  have hB' : ∀ n : Nat, n < 256 → ((c.toNat : Int) == (n : Int)) = false → c ≠ UInt8.ofNat n := fun n hn h e => by rw [(u8_nat hn).2 e] at h; simp at h
  have one : ∀ q', spl q ((l.take i).drop st) (c :: l.drop (i + 1)) = spl q' ((l.take i).drop st ++ [c]) (l.drop (i + 1)) → invRs l ⟨acc, st, q', i + 1⟩ := fun q' e => .inl ⟨hi, by simp only; omega, h3, by simp only; rw [hcur, ← e]; exact h4⟩
  have rest : c ≠ 34 → ¬ (q = true ∧ c = 92) → ¬ (q = false ∧ c = 44) → invRs l ⟨acc, st, q, i + 1⟩ := fun e1 e2 e3 => one q (spl_o _ _ _ _ e1 e2 e3)
  have comma : q = false → c = 44 → ∀ e, e = addEl ((l.take i).drop st) → (acc ++ e).length ≤ i + 1 → invRs l ⟨acc ++ e, i + 1, q, i + 1⟩ := fun e1 e2 e he hl => by
    refine .inl ⟨hi, Nat.le_refl _, hl, ?_⟩
    simp only
    have hz : (l.take (i + 1)).drop (i + 1) = [] := List.drop_eq_nil_of_le (by simp; omega)
    have n34 : c ≠ 34 := by rw [e2]; decide
    rw [h4, spl_c _ _ _ _ n34 (by simp [e1]) ⟨e1, e2⟩, hz, he, Option.map_map]
    congr 1
    funext r; simp
  cases q with
  | true =>
    refine br_b rfl (br_dec (by omega) (br_intro (fun k2 => ?_) (fun k2 => br_dec (by omega) (br_intro (fun k1 => ⟨⟨acc, st, false, i + 1⟩, one _ (spl_q _ _ _ _ (hB 34 (by omega) k1)), by simp only; omega, rfl, rfl, rfl, rfl, rfl⟩) (fun k1 => ⟨⟨acc, st, true, i + 1⟩, rest (hB' 34 (by omega) k1) (fun e => hB' 92 (by omega) k2 e.2) (by simp), by simp only; omega, rfl, rfl, rfl, rfl, rfl⟩)))))
    have e92 : c = 92 := hB 92 (by omega) k2
    have n34 : c ≠ 34 := by rw [e92]; decide
    by_cases hr : i + 1 < l.length
    · have hd2 := List.drop_eq_getElem_cons hr
      rw [hd2] at h4
      refine br_nd (by omega) ⟨⟨acc, st, true, i + 2⟩, .inl ⟨by simp only; omega, by simp only; omega, h3, ?_⟩, by simp only; omega, rfl, rfl, rfl, rfl, rfl⟩
      simp only
      have hcur2 : (l.take (i + 2)).drop st = (l.take i).drop st ++ [c, l[i + 1]] := by
        rw [List.take_succ_eq_append_getElem hr, List.drop_append_of_le_length (by simp; omega), hcur]; simp
      rw [h4, spl_b _ _ _ _ _ n34 ⟨rfl, e92⟩, hcur2]
    · have hz : l.drop (i + 1) = [] := List.drop_eq_nil_of_le (by omega)
      rw [hz] at h4
      exact br_dec (by omega) ⟨⟨[], 0, true, 0⟩, by rw [h4, spl_b0 _ _ _ n34 ⟨rfl, e92⟩]; rfl⟩
  | false =>
    refine br_nb rfl (br_nb (by simp; omega) (br_dec (by omega) (br_intro (fun k2 => br_dec (by omega) ?_) (fun k2 => br_dec (by omega) (br_intro (fun k1 => ⟨⟨acc, st, true, i + 1⟩, one _ (spl_q _ _ _ _ (hB 34 (by omega) k1)), by simp only; omega, rfl, rfl, rfl, rfl, rfl⟩) (fun k1 => ⟨⟨acc, st, false, i + 1⟩, rest (hB' 34 (by omega) k1) (by simp) (fun e => hB' 44 (by omega) k2 e.2), by simp only; omega, rfl, rfl, rfl, rfl, rfl⟩))))))
    have e44 : c = 44 := hB 44 (by omega) k2
    refine ⟨hlen, br_intro (fun k3 => br_dec (by omega) (br_dec (Nat.le_refl _) ?_)) (fun k3 => ?_)⟩
    · have hne : trimL ((l.take i).drop st) ≠ [] := by simpa using k3
      refine ⟨⟨acc ++ [trimL ((l.take i).drop st)], i + 1, false, i + 1⟩, comma rfl e44 _ (by unfold addEl; rw [if_neg hne]) (by simp; omega), by simp only; omega, by simp, rfl, rfl, rfl, ?_⟩
      rw [sTake, sOne1, gC_app]
    · have hne : trimL ((l.take i).drop st) = [] := by simpa using k3
      have := comma rfl e44 [] (by unfold addEl; rw [if_pos hne]) (by simp; omega)
      rw [List.append_nil] at this
      exact ⟨⟨acc, i + 1, false, i + 1⟩, this, by simp only; omega, rfl, rfl, rfl, rfl, rfl⟩
theorem Rs_con (l : List UInt8) (hl : l.length ≤ 16777000) : Con Try.prog 19 [.string (bs l)] [] (.tuple #[.slice (some ⟨0, 0, none⟩) (elSp l).length 1, .bool (okSp l)]) [gOwn enS (elSp l)] := by
  refine con_vc (E := ERs) mixed (calls_envC cRs_ok) (lok_envC _ _ _) (M := mRs) (lm_one Rs_piece) (Rs_vc l) ?_
  simp only [ofNat_eq, toNat_cast, Nat.zero_add, Nat.add_zero, Nat.mul_one, List.drop_zero, bCells_len, bCells_drop, bCells_take, bCells_app, bCells_one, bCells_plain, List.length_replicate, List.length_append, List.length_take, List.length_drop, List.take_length, and_true, true_and, and_self, decide_true, List.length_nil, List.length_cons, Nat.sub_zero, dB_mk, dB_ro, List.take_zero, bs_d, sPl, sLen, bs_nil, strEq_bs, trimS_bs]
  have no : splitL l = none → (elSp l).length = 0 ∧ okSp l = false ∧ gC enS (elSp l) = [] := fun h => by
    have e1 : elSp l = [] := by unfold elSp; rw [h]; rfl
    have e2 : okSp l = false := by unfold okSp; rw [h]; rfl
    rw [e1, e2]; exact ⟨rfl, rfl, rfl⟩
  refine ⟨l, hl, rfl, br_side (fun y hy => br_intro (fun h => no (hy.1 h)) (fun h => ?_)) (fun _ h => no h)⟩
  have h1 := hy.2 h
  have e1 : elSp l = y.acc := by unfold elSp; rw [h1]; rfl
  have e2 : okSp l = true := by unfold okSp; rw [h1]; rfl
  rw [e1, e2]; exact ⟨rfl, rfl, rfl⟩
end Go.Proofs.Ytajfdcijpchjdaa.tk
