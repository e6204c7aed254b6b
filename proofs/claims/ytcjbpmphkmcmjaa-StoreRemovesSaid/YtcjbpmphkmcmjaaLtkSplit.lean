/- A list's elements. -/
import Derived.Test.YtcjbpmphkmcmjaaSz9
import Derived.Test.YtcjbpmphkmcmjaaRows
import Derived.Test.YtcjbpmphkmcmjaaLtkTrim
set_option maxRecDepth 20000
set_option linter.unusedSimpArgs false
set_option linter.unusedVariables false
namespace Go.Proofs.Ytcjbpmphkmcmjaa.tk
open Go Go.Ev Go.Sy Go.RowKit Go.Proofs.Ytcjbpmphkmcmjaa.gl
def cSp : FuncId → List Value → List Row → Option (Prop × Value × List Row)
  | 55, [.string s], [] => some ((L s).length ≤ maxLen, .string (trimS s), [])
  | _, _, _ => none
noncomputable abbrev ESp : Env := envC Try.prog cSp (fun f => Nat.beq f 55)
def pSp : List Nat := [0, 1, 0, 1, 1, 1]
structure StSp where
  acc : List (List UInt8)
  st : Nat
  q : Bool
  i : Nat
def slSp (l : List UInt8) (s : StSp) : List (Nat × Value) := [(0, .string (bs l)), (4, .slice (some ⟨0, 0, none⟩) s.acc.length 1), (5, .int .i64 (s.st : Nat)), (6, .bool s.q), (7, .int .i64 (s.i : Nat))]
def rlSp (_ : List UInt8) (s : StSp) : List (Nat × Row) := [(0, gOwn enS s.acc)]
def endSp (l : List UInt8) (acc : List (List UInt8)) (st : Nat) (q : Bool) : Prop := (q = true → splitL l = none) ∧ (q = false → st ≤ l.length ∧ acc.length ≤ st ∧ splitL l = some (acc ++ addEl (l.drop st)))
def wsSp (l : List UInt8) : List (Gate StSp) := [⟨.exit 0, fun s => endSp l s.acc s.st s.q, fun s => [(0, .string (bs l)), (4, .slice (some ⟨0, 0, none⟩) s.acc.length 1), (5, .int .i64 (s.st : Nat)), (6, .bool s.q)], fun s => [(0, gOwn enS s.acc)], 1⟩]
def specSp : Sy.Spec := specOf 0 1 54 (fun l : List UInt8 => l.length ≤ 16777000) (fun l => slSp l ⟨[], 0, false, 0⟩) (fun l => rlSp l ⟨[], 0, false, 0⟩) wsSp
def mSp := mOf [(59, pSp, specSp)]
def invSp (l : List UInt8) (s : StSp) : Prop := (s.i ≤ l.length ∧ s.st ≤ s.i ∧ s.acc.length ≤ s.st ∧ splitL l = (spl s.q ((l.take s.i).drop s.st) (l.drop s.i)).map fun r => s.acc ++ r) ∨ (s.i = l.length + 1 ∧ s.q = true ∧ splitL l = none ∧ s.acc.length ≤ l.length)
theorem Sp_round (l : List UInt8) (s : StSp) (Inv : StSp → Prop) (m : StSp → Nat) : mev ESp noM 60 59 (0 :: pSp) false (codeOf Try.prog 59 (0 :: pSp)) ⟨mkOv (slSp l s), 54, []⟩ none ⟨mkR (rlSp l s), 1⟩ (roundK 0 1 54 Inv m (slSp l) (rlSp l) (wsSp l) s) =
  let z1 := (decide ((0 : Int) <= (↑s.4 : Int) /\ (↑s.4 : Int) < (↑(List.length (Array.toList (ByteArray.data (bs l)))) : Int))); let z2 := (sub (bs l) (Int.toNat (↑s.2 :
  Int)) (Int.toNat (↑s.4 : Int))); let z3 := (decide ((0 : Int) <= (↑s.2 : Int) /\ (↑s.2 : Int) <= (↑s.4 : Int) /\ (↑s.4 : Int) <= (↑(List.length (Array.toList
  (ByteArray.data (bs l)))) : Int))); let z4 := (List.take (List.length s.1 * 1) (List.drop 0 (gC enS s.1)) ++ [Value.string (trimS z2)]); let z5 := (((True /\ True) /\
  (True /\ List.length (L z2) <= 9223372036854775807))); let z6 := (decide (0 + List.length s.1 * 1 <= List.length (gC enS s.1))); let z7 := (byteAt (bs l) (Int.toNat (↑s.4
  : Int)) == (44 : Int)); (br (decide ((↑s.4 : Int) < Int.ofNat (List.length (Array.toList (ByteArray.data (bs l)))))) (br z1 (br (byteAt (bs l) (Int.toNat (↑s.4 : Int)) ==
  (34 : Int)) (∃ j : StSp, ((Inv j) /\ ((m j < m s) /\ ((bs l = bs l) /\ ((0 = 0) /\ ((List.length j.1 = List.length s.1) /\ (((↑j.2 : Int) = (↑s.2 : Int)) /\ ((j.3 = !s.3)
  /\ (((↑j.4 : Int) = IntKind.wrap IntKind.i64 ((↑s.4 : Int) + (1 : Int))) /\ ((Eq (α := List Value) (gC enS j.1) (gC enS s.1)) /\ ((Plain (gC enS j.1)) /\ True)))))))))))
  (br (s.3) (br z1 (br (byteAt (bs l) (Int.toNat (↑s.4 : Int)) == (92 : Int)) (∃ j : StSp, ((Inv j) /\ ((m j < m s) /\ ((bs l = bs l) /\ ((0 = 0) /\ ((List.length j.1 =
  List.length s.1) /\ (((↑j.2 : Int) = (↑s.2 : Int)) /\ ((j.3 = s.3) /\ (((↑j.4 : Int) = IntKind.wrap IntKind.i64 (IntKind.wrap IntKind.i64 ((↑s.4 : Int) + (1 : Int)) + (1 :
  Int))) /\ ((Eq (α := List Value) (gC enS j.1) (gC enS s.1)) /\ ((Plain (gC enS j.1)) /\ True))))))))))) (br (!s.3) (br z1 (br z7 (br z3 (z5 /\ (br (!strEq (trimS z2)
  (ByteArray.mk #[])) (br (decide (List.length s.1 + 1 <= 16777216)) (br z6 (∃ j : StSp, ((Inv j) /\ ((m j < m s) /\ ((bs l = bs l) /\ ((0 = 0) /\ ((List.length j.1 =
  List.length s.1 + 1) /\ (((↑j.2 : Int) = IntKind.wrap IntKind.i64 ((↑s.4 : Int) + (1 : Int))) /\ ((j.3 = s.3) /\ (((↑j.4 : Int) = IntKind.wrap IntKind.i64 ((↑s.4 : Int) +
  (1 : Int))) /\ ((Eq (α := List Value) (gC enS j.1) z4) /\ ((Plain (gC enS j.1)) /\ True))))))))))) False) False) (∃ j : StSp, ((Inv j) /\ ((m j < m s) /\ ((bs l = bs l) /\
  ((0 = 0) /\ ((List.length j.1 = List.length s.1) /\ (((↑j.2 : Int) = IntKind.wrap IntKind.i64 ((↑s.4 : Int) + (1 : Int))) /\ ((j.3 = s.3) /\ (((↑j.4 : Int) = IntKind.wrap
  IntKind.i64 ((↑s.4 : Int) + (1 : Int))) /\ ((Eq (α := List Value) (gC enS j.1) (gC enS s.1)) /\ ((Plain (gC enS j.1)) /\ True))))))))))))) False) (∃ j : StSp, ((Inv j) /\
  ((m j < m s) /\ ((bs l = bs l) /\ ((0 = 0) /\ ((List.length j.1 = List.length s.1) /\ (((↑j.2 : Int) = (↑s.2 : Int)) /\ ((j.3 = s.3) /\ (((↑j.4 : Int) = IntKind.wrap
  IntKind.i64 ((↑s.4 : Int) + (1 : Int))) /\ ((Eq (α := List Value) (gC enS j.1) (gC enS s.1)) /\ ((Plain (gC enS j.1)) /\ True)))))))))))) False) (∃ j : StSp, ((Inv j) /\
  ((m j < m s) /\ ((bs l = bs l) /\ ((0 = 0) /\ ((List.length j.1 = List.length s.1) /\ (((↑j.2 : Int) = (↑s.2 : Int)) /\ ((j.3 = s.3) /\ (((↑j.4 : Int) = IntKind.wrap
  IntKind.i64 ((↑s.4 : Int) + (1 : Int))) /\ ((Eq (α := List Value) (gC enS j.1) (gC enS s.1)) /\ ((Plain (gC enS j.1)) /\ True))))))))))))) False) (br (!s.3) (br z1 (br z7
  (br z3 (z5 /\ (br (!strEq (trimS z2) (ByteArray.mk #[])) (br (decide (List.length s.1 + 1 <= 16777216)) (br z6 (∃ j : StSp, ((Inv j) /\ ((m j < m s) /\ ((bs l = bs l) /\
  ((0 = 0) /\ ((List.length j.1 = List.length s.1 + 1) /\ (((↑j.2 : Int) = IntKind.wrap IntKind.i64 ((↑s.4 : Int) + (1 : Int))) /\ ((j.3 = s.3) /\ (((↑j.4 : Int) =
  IntKind.wrap IntKind.i64 ((↑s.4 : Int) + (1 : Int))) /\ ((Eq (α := List Value) (gC enS j.1) z4) /\ ((Plain (gC enS j.1)) /\ True))))))))))) False) False) (∃ j : StSp,
  ((Inv j) /\ ((m j < m s) /\ ((bs l = bs l) /\ ((0 = 0) /\ ((List.length j.1 = List.length s.1) /\ (((↑j.2 : Int) = IntKind.wrap IntKind.i64 ((↑s.4 : Int) + (1 : Int))) /\
  ((j.3 = s.3) /\ (((↑j.4 : Int) = IntKind.wrap IntKind.i64 ((↑s.4 : Int) + (1 : Int))) /\ ((Eq (α := List Value) (gC enS j.1) (gC enS s.1)) /\ ((Plain (gC enS j.1)) /\
  True))))))))))))) False) (∃ j : StSp, ((Inv j) /\ ((m j < m s) /\ ((bs l = bs l) /\ ((0 = 0) /\ ((List.length j.1 = List.length s.1) /\ (((↑j.2 : Int) = (↑s.2 : Int)) /\
  ((j.3 = s.3) /\ (((↑j.4 : Int) = IntKind.wrap IntKind.i64 ((↑s.4 : Int) + (1 : Int))) /\ ((Eq (α := List Value) (gC enS j.1) (gC enS s.1)) /\ ((Plain (gC enS j.1)) /\
  True)))))))))))) False) (∃ j : StSp, ((Inv j) /\ ((m j < m s) /\ ((bs l = bs l) /\ ((0 = 0) /\ ((List.length j.1 = List.length s.1) /\ (((↑j.2 : Int) = (↑s.2 : Int)) /\
  ((j.3 = s.3) /\ (((↑j.4 : Int) = IntKind.wrap IntKind.i64 ((↑s.4 : Int) + (1 : Int))) /\ ((Eq (α := List Value) (gC enS j.1) (gC enS s.1)) /\ ((Plain (gC enS j.1)) /\
  True)))))))))))))) False) (∃ y : StSp, ((endSp l y.1 y.2 y.3) /\ ((bs l = bs l) /\ ((0 = 0) /\ ((List.length y.1 = List.length s.1) /\ (((↑y.2 : Int) = (↑s.2 : Int)) /\
  ((y.3 = s.3) /\ ((Eq (α := List Value) (gC enS y.1) (gC enS s.1)) /\ ((Plain (gC enS y.1)) /\ True)))))))))) := by kernel_rfl
theorem Sp_vc (l : List UInt8) : mcall ESp mSp 60 59 [.string (bs l)] ⟨mkR (nums 0 []), 0⟩ (retIs 0 (.tuple #[.slice (some ⟨0, 0, none⟩) (elSp l).length 1, .bool (okSp l)]) [gOwn enS (elSp l)]) =
  (∃ g : List UInt8, ((List.length g <= 16777000) /\ ((bs g = bs l) /\ ((0 = 0) /\ (((0 : Int) = (0 : Int)) /\ ((false = false) /\ (((0 : Int) = (0 : Int)) /\ ((Eq (α :=
  List Value) ([]) ([])) /\ (∀ (y : StSp), ((endSp g y.1 y.2 y.3) → (br (y.3) ((List.length (elSp l) = 0) /\ ((okSp l = false) /\ ((Eq (α := List Value) (gC enS (elSp l))
  ([])) /\ True))) (br (decide ((0 : Int) <= (↑y.2 : Int) /\ (↑y.2 : Int) <= (↑(List.length (Array.toList (ByteArray.data (bs g)))) : Int) /\ (↑(List.length (Array.toList
  (ByteArray.data (bs g)))) : Int) <= (↑(List.length (Array.toList (ByteArray.data (bs g)))) : Int))) ((((True /\ True) /\ (True /\ List.length (L (sub (bs g) (Int.toNat
  (↑y.2 : Int)) (Int.toNat (↑(List.length (Array.toList (ByteArray.data (bs g)))) : Int)))) <= 9223372036854775807))) /\ (br (!strEq (trimS (sub (bs g) (Int.toNat (↑y.2 :
  Int)) (Int.toNat (↑(List.length (Array.toList (ByteArray.data (bs g)))) : Int)))) (ByteArray.mk #[])) (br (decide (List.length y.1 + 1 <= 16777216)) (br (decide (0 +
  List.length y.1 * 1 <= List.length (gC enS y.1))) ((0 = 0) /\ ((List.length (elSp l) = List.length y.1 + 1) /\ ((okSp l = true) /\ ((Eq (α := List Value) (gC enS (elSp l))
  (List.take (List.length y.1 * 1) (List.drop 0 (gC enS y.1)) ++ [Value.string (trimS (sub (bs g) (Int.toNat (↑y.2 : Int)) (Int.toNat (↑(List.length (Array.toList
  (ByteArray.data (bs g)))) : Int))))])) /\ ((Plain (gC enS (elSp l))) /\ True))))) False) False) ((0 = 0) /\ ((List.length (elSp l) = List.length y.1) /\ ((okSp l = true)
  /\ ((Eq (α := List Value) (gC enS (elSp l)) (gC enS y.1)) /\ ((Plain (gC enS (elSp l))) /\ True))))))) False)))))))))))) := by kernel_rfl
theorem cSp_ok : ∀ f a rows p v news, cSp f a rows = some (p, v, news) → p → Con Try.prog f a rows v (rows ++ news) := by
  intro f a rows p v news h hp
  unfold cSp at h
  split at h <;> simp only [Option.some.injEq, Prod.mk.injEq, reduceCtorEq] at h <;> obtain ⟨rfl, rfl, rfl⟩ := h
  exact Trm_con (L _) hp
theorem Sp_piece : PieceOk ESp 0 (59, pSp, specSp) := by
  refine piece_loop mixed (calls_envC cSp_ok) (lok_envC _ _ _) lm_none (n := 60) (by kernel_rfl) (fun _ : List UInt8 => (⟨[], 0, false, 0⟩ : StSp)) invSp (fun l s => l.length + 1 - s.i) (sl := slSp) (rl := rlSp) (fun l hg => .inl ⟨Nat.zero_le _, Nat.le_refl _, Nat.le_refl _, by simp [splitL]⟩) (fun l s hg hi => ?_)
  refine (Sp_round l s _ _).mpr ?_
  obtain ⟨acc, st, q, i⟩ := s
  have hm : maxLen = 9223372036854775807 := by unfold maxLen; rfl
  simp only [ofNat_eq, toNat_cast, Nat.zero_add, Nat.add_zero, Nat.mul_one, List.drop_zero, bCells_len, bCells_drop, bCells_take, bCells_app, bCells_one, bCells_plain, List.length_replicate, List.length_append, List.length_take, List.length_drop, List.take_length, and_true, true_and, and_self, decide_true, List.length_nil, List.length_cons, Nat.sub_zero, dB_mk, dB_ro, List.take_zero, bs_d, sPl, sLen, bs_nil, strEq_bs, trimS_bs]
  rcases hi with ⟨h1, h2, h3, h4⟩ | ⟨h1, h2, h3, h4⟩
  rotate_left
  · simp only at h1 h2 h3 h4
    subst h1; subst h2
    exact br_nd (by omega) ⟨⟨acc, st, true, 0⟩, ⟨fun _ => h3, fun h => by simp at h⟩, rfl, rfl, rfl, rfl⟩
  simp only at h1 h2 h3 h4
  refine br_if (fun h => br_dec (by omega) ?_) (fun h => ?_)
  rotate_left
  · have hl : i = l.length := by omega
    subst hl
    rw [List.drop_length, List.take_length, spl_nil] at h4
    refine ⟨⟨acc, st, q, 0⟩, ⟨fun h => ?_, fun h => ⟨h2, h3, ?_⟩⟩, rfl, rfl, rfl, rfl⟩
    · simp only at h; subst h; simpa using h4
    · simp only at h; subst h; simpa using h4
  have hi : i < l.length := by omega
  rw [byteAt_bs hi]
  have w := i64_succ (show i < 9223372036854775807 by omega)
  have w2 := i64_succ (show i + 1 < 9223372036854775807 by omega)
  simp only [w, w2]
  have hd := List.drop_eq_getElem_cons hi
  rw [hd] at h4
  obtain ⟨c, hc⟩ : ∃ c, c = l[i] := ⟨_, rfl⟩
  rw [← hc] at h4 ⊢
  have hcur : (l.take (i + 1)).drop st = (l.take i).drop st ++ [c] := by
    rw [List.take_succ_eq_append_getElem hi, ← hc, List.drop_append_of_le_length (by simp; omega)]
  have hsub : sub (bs l) st i = bs ((l.take i).drop st) := by rw [sub_bs, List.drop_take]
  have hB : ∀ n : Nat, n < 256 → ((c.toNat : Int) == (n : Int)) = true → c = UInt8.ofNat n := fun n hn h => (u8_nat hn).1 (by simpa using h)
  have hB' : ∀ n : Nat, n < 256 → ((c.toNat : Int) == (n : Int)) = false → c ≠ UInt8.ofNat n := fun n hn h e => by rw [(u8_nat hn).2 e] at h; simp at h
  have one : ∀ q', spl q ((l.take i).drop st) (c :: l.drop (i + 1)) = spl q' ((l.take i).drop st ++ [c]) (l.drop (i + 1)) → invSp l ⟨acc, st, q', i + 1⟩ := fun q' e => .inl ⟨hi, by simp only; omega, h3, by simp only; rw [hcur, ← e]; exact h4⟩
  have rest : c ≠ 34 → ¬ (q = true ∧ c = 92) → ¬ (q = false ∧ c = 44) → invSp l ⟨acc, st, q, i + 1⟩ := fun e1 e2 e3 => one q (spl_o _ _ _ _ e1 e2 e3)
  refine br_intro (fun k1 => ⟨⟨acc, st, !q, i + 1⟩, one _ (spl_q _ _ _ _ (hB 34 (by omega) k1)), by simp only; omega, rfl, rfl, rfl, rfl, rfl⟩) (fun k1 => ?_)
  have n34 : c ≠ 34 := hB' 34 (by omega) k1
  have comma : q = false → c = 44 → ∀ e, e = addEl ((l.take i).drop st) → (acc ++ e).length ≤ i + 1 → invSp l ⟨acc ++ e, i + 1, q, i + 1⟩ := fun e1 e2 e he hl => by
    refine .inl ⟨hi, Nat.le_refl _, hl, ?_⟩
    simp only
    have hz : (l.take (i + 1)).drop (i + 1) = [] := List.drop_eq_nil_of_le (by simp; omega)
    rw [h4, spl_c _ _ _ _ n34 (by simp [e1]) ⟨e1, e2⟩, hz, he, Option.map_map]
    congr 1
    funext r; simp
  have hlen : ((l.take i).drop st).length ≤ 9223372036854775807 := by simp; omega
  cases q with
  | true =>
    refine br_b rfl (br_dec (by omega) (br_intro (fun k2 => ?_) (fun k2 => br_nb rfl ⟨⟨acc, st, true, i + 1⟩, rest n34 (fun e => hB' 92 (by omega) k2 e.2) (by simp), by simp only; omega, rfl, rfl, rfl, rfl, rfl⟩)))
    refine ⟨⟨acc, st, true, i + 2⟩, ?_, by simp only; omega, rfl, rfl, rfl, rfl, rfl⟩
    have e92 : c = 92 := hB 92 (by omega) k2
    by_cases hr : i + 1 < l.length
    · have hd2 := List.drop_eq_getElem_cons hr
      rw [hd2] at h4
      refine .inl ⟨by simp only; omega, by simp only; omega, h3, ?_⟩
      simp only
      have hcur2 : (l.take (i + 2)).drop st = (l.take i).drop st ++ [c, l[i + 1]] := by
        rw [List.take_succ_eq_append_getElem hr, List.drop_append_of_le_length (by simp; omega), hcur]; simp
      rw [h4, spl_b _ _ _ _ _ n34 ⟨rfl, e92⟩, hcur2]
    · refine .inr ⟨by simp only; omega, rfl, ?_, by simp only; omega⟩
      have hz : l.drop (i + 1) = [] := List.drop_eq_nil_of_le (by omega)
      rw [hz] at h4
      rw [h4, spl_b0 _ _ _ n34 ⟨rfl, e92⟩]; rfl
  | false =>
    refine br_nb rfl (br_b rfl (br_dec (by omega) (br_intro (fun k2 => br_dec (by omega) ?_) (fun k2 => ⟨⟨acc, st, false, i + 1⟩, rest n34 (by simp) (fun e => hB' 44 (by omega) k2 e.2), by simp only; omega, rfl, rfl, rfl, rfl, rfl⟩))))
    have e44 : c = 44 := hB 44 (by omega) k2
    rw [hsub, bs_len, trimS_bs, strEq_bs]
    refine ⟨hlen, br_intro (fun k3 => br_dec (by omega) (br_dec (Nat.le_refl _) ?_)) (fun k3 => ?_)⟩
    · have hne : trimL ((l.take i).drop st) ≠ [] := by simpa using k3
      refine ⟨⟨acc ++ [trimL ((l.take i).drop st)], i + 1, false, i + 1⟩, comma rfl e44 _ (by unfold addEl; rw [if_neg hne]) (by simp; omega), by simp only; omega, by simp, rfl, rfl, rfl, ?_⟩
      rw [sTake, sOne1, gC_app]
    · have hne : trimL ((l.take i).drop st) = [] := by simpa using k3
      have := comma rfl e44 [] (by unfold addEl; rw [if_pos hne]) (by simp; omega)
      rw [List.append_nil] at this
      exact ⟨⟨acc, i + 1, false, i + 1⟩, this, by simp only; omega, rfl, rfl, rfl, rfl, rfl⟩
theorem Sp_con (l : List UInt8) (hl : l.length ≤ 16777000) : Con Try.prog 59 [.string (bs l)] [] (.tuple #[.slice (some ⟨0, 0, none⟩) (elSp l).length 1, .bool (okSp l)]) [gOwn enS (elSp l)] := by
  refine con_vc (E := ESp) mixed (calls_envC cSp_ok) (lok_envC _ _ _) (M := mSp) (lm_one Sp_piece) (Sp_vc l) ?_
  simp only [ofNat_eq, toNat_cast, Nat.zero_add, Nat.add_zero, Nat.mul_one, List.drop_zero, bCells_len, bCells_drop, bCells_take, bCells_app, bCells_one, bCells_plain, List.length_replicate, List.length_append, List.length_take, List.length_drop, List.take_length, and_true, true_and, and_self, decide_true, List.length_nil, List.length_cons, Nat.sub_zero, dB_mk, dB_ro, List.take_zero, bs_d, sPl, sLen, bs_nil, strEq_bs, trimS_bs]
  refine ⟨l, hl, rfl, fun s hs => br_intro (fun h => ?_) (fun h => ?_)⟩
  · have := hs.1 h
    exact ⟨by simp [elSp, this], by simp [okSp, this], by simp [elSp, this, gC]⟩
  · obtain ⟨h1, h2, h3⟩ := hs.2 h
    have hs : sub (bs l) s.st l.length = bs (l.drop s.st) := by rw [sub_bs]; congr 1; exact List.take_of_length_le (by simp)
    have ho : okSp l = true := by simp [okSp, h3]
    have he : elSp l = s.acc ++ addEl (l.drop s.st) := by simp [elSp, h3]
    refine br_dec (by omega) ?_
    rw [hs, trimS_bs, strEq_bs, ho, he, bs_len]
    refine ⟨by simp; omega, br_intro (fun h => br_dec (by omega) (br_dec (Nat.le_refl _) ?_)) (fun h => ?_)⟩
    · have hne : trimL (l.drop s.st) ≠ [] := by simpa using h
      unfold addEl; rw [if_neg hne]
      exact ⟨by simp, rfl, by rw [sTake, sOne1, gC_app]⟩
    · have hne : trimL (l.drop s.st) = [] := by simpa using h
      unfold addEl; rw [if_pos hne, List.append_nil]
      exact ⟨rfl, rfl, rfl⟩
end Go.Proofs.Ytcjbpmphkmcmjaa.tk
