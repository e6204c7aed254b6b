/- An element of a list as a pair, by the document. -/
import Derived.Test.YtajfdcijpchjdaaSz9
import Derived.Test.YtajfdcijpchjdaaRows
import Derived.Test.YtajfdcijpchjdaaLrtUnq
import Derived.Test.YtajfdcijpchjdaaLrtLower
set_option maxRecDepth 20000
set_option linter.unusedSimpArgs false
set_option linter.unusedVariables false
namespace Go.Proofs.Ytajfdcijpchjdaa.tk
open Go Go.Ev Go.Sy Go.RowKit Go.Proofs.Ytajfdcijpchjdaa.gl
def cRo : FuncId → List Value → List Row → Option (Prop × Value × List Row)
  | 56, [.string s], [] => some ((L s).length ≤ maxLen, .bool (tokS s), [])
  | 57, [.string s], [] => some ((L s).length ≤ maxLen, .string (lowS s), [])
  | 58, [.string s], [] => some ((L s).length ≤ 16777000, .tuple #[.string (unqV s), .bool (unqB s)], [])
  | _, _, _ => none
noncomputable abbrev ERo : Env := envC Try.prog cRo (fun f => Nat.beq f 56 || Nat.beq f 57 || Nat.beq f 58)
def pRo : List Nat := [0, 0, 1, 1]
def prRow2 (p : Pr) : Row := ⟨enP p, false, .cells false⟩
def p02 : Pr := ⟨[], [], false⟩
def slRo (l : List UInt8) (i : Nat) : List (Nat × Value) := [(0, .string (bs l)), (2, .pointer (some ⟨0, 0, none⟩)), (4, .int .i64 (i : Nat))]
def rlRo (_ : List UInt8) : List (Nat × Row) := [(0, prRow2 p02)]
def endRo (l : List UInt8) (i : Nat) : Prop := i ≤ l.length ∧ (61 : UInt8) ∉ l.take i ∧ (i < l.length → l.getD i 0 = 61)
def wsRo (l : List UInt8) : List (Gate Nat) := [⟨.exit 0, fun i => endRo l i, fun i => slRo l i, fun _ => [(0, prRow2 p02)], 1⟩]
def specRo : Sy.Spec := specOf 0 1 54 (fun l : List UInt8 => l.length ≤ 16777000) (fun l => slRo l 0) (fun l => rlRo l) wsRo
def mRo := mOf [(37, pRo, specRo)]
theorem Ro_round (l : List UInt8) (i : Nat) (Inv : Nat → Prop) (m : Nat → Nat) : mev ERo noM 60 37 (0 :: pRo) false (codeOf Try.prog 37 (0 :: pRo)) ⟨mkOv (slRo l i), 54, []⟩ none ⟨mkR (rlRo l), 1⟩ (roundK 0 1 54 Inv m (slRo l) (fun _ => rlRo l) (wsRo l) i) =
  let z1 := ((bs (Pr.n p02) = bs (Pr.n p02)) /\ ((bs (Pr.v p02) = bs (Pr.v p02)) /\ ((false = false) /\ True))); let z2 := (List.length (Array.toList (ByteArray.data (bs
  l)))); (br (decide ((↑i : Int) < Int.ofNat z2)) (br (decide ((0 : Int) <= (↑i : Int) /\ (↑i : Int) < (↑z2 : Int))) (br (byteAt (bs l) (Int.toNat (↑i : Int)) != (61 : Int))
  (∃ j : Nat, ((Inv j) /\ ((m j < m i) /\ ((bs l = bs l) /\ ((0 = 0) /\ (((↑j : Int) = IntKind.wrap IntKind.i64 ((↑i : Int) + (1 : Int))) /\ z1)))))) (∃ y : Nat, ((endRo l
  y) /\ ((bs l = bs l) /\ ((0 = 0) /\ (((↑y : Int) = (↑i : Int)) /\ z1)))))) False) (∃ y : Nat, ((endRo l y) /\ ((bs l = bs l) /\ ((0 = 0) /\ (((↑y : Int) = (↑i : Int)) /\
  z1)))))) := by kernel_rfl
theorem Ro_vc (l : List UInt8) (p : Pr) (x : Bool) : mcall ERo mRo 60 37 [.string (bs l)] ⟨mkR (nums 0 []), 0⟩ (retIs 0 (.tuple #[.agg ⟨enP p⟩, .bool x]) []) =
  let z1 := ((bs p.1 = ByteArray.mk #[]) /\ ((bs p.2 = ByteArray.mk #[]) /\ ((p.3 = false) /\ ((x = false) /\ True)))); (∃ g : List UInt8, ((List.length g <= 16777000) /\
  ((bs g = bs l) /\ ((0 = 0) /\ (((0 : Int) = (0 : Int)) /\ ((bs (Pr.n p02) = ByteArray.mk #[]) /\ ((bs (Pr.v p02) = ByteArray.mk #[]) /\ ((false = false) /\ (∀ (y : Nat),
  ((endRo g y) → (br ((↑y : Int) == Int.ofNat (List.length (Array.toList (ByteArray.data (bs g))))) ((((True /\ True) /\ (True /\ List.length (L (bs g)) <=
  9223372036854775807))) /\ (br (!tokS (bs g)) z1 ((((True /\ True) /\ (True /\ List.length (L (bs g)) <= 9223372036854775807))) /\ ((bs p.1 = lowS (bs g)) /\ ((bs p.2 =
  ByteArray.mk #[]) /\ ((p.3 = false) /\ ((x = true) /\ True))))))) (br (decide ((0 : Int) <= IntKind.wrap IntKind.i64 ((↑y : Int) + (1 : Int)) /\ IntKind.wrap IntKind.i64
  ((↑y : Int) + (1 : Int)) <= (↑(List.length (Array.toList (ByteArray.data (bs g)))) : Int) /\ (↑(List.length (Array.toList (ByteArray.data (bs g)))) : Int) <=
  (↑(List.length (Array.toList (ByteArray.data (bs g)))) : Int))) ((((True /\ True) /\ (True /\ List.length (L (sub (bs g) (Int.toNat (IntKind.wrap IntKind.i64 ((↑y : Int) +
  (1 : Int)))) (Int.toNat (↑(List.length (Array.toList (ByteArray.data (bs g)))) : Int)))) <= 16777000))) /\ (br (decide ((0 : Int) <= (↑0 : Int) /\ (0 : Int) <= (↑y : Int)
  /\ (↑y : Int) <= (↑(List.length (Array.toList (ByteArray.data (bs g)))) : Int))) ((((True /\ True) /\ (True /\ List.length (L (sub (bs g) 0 (Int.toNat (↑y : Int)))) <=
  9223372036854775807))) /\ (br (!tokS (sub (bs g) 0 (Int.toNat (↑y : Int)))) z1 (br (!unqB (sub (bs g) (Int.toNat (IntKind.wrap IntKind.i64 ((↑y : Int) + (1 : Int))))
  (Int.toNat (↑(List.length (Array.toList (ByteArray.data (bs g)))) : Int)))) z1 (br (decide ((0 : Int) <= (↑0 : Int) /\ (0 : Int) <= (↑y : Int) /\ (↑y : Int) <=
  (↑(List.length (Array.toList (ByteArray.data (bs g)))) : Int))) ((((True /\ True) /\ (True /\ List.length (L (sub (bs g) 0 (Int.toNat (↑y : Int)))) <=
  9223372036854775807))) /\ ((bs p.1 = lowS (sub (bs g) 0 (Int.toNat (↑y : Int)))) /\ ((bs p.2 = unqV (sub (bs g) (Int.toNat (IntKind.wrap IntKind.i64 ((↑y : Int) + (1 :
  Int)))) (Int.toNat (↑(List.length (Array.toList (ByteArray.data (bs g)))) : Int)))) /\ ((p.3 = true) /\ ((x = true) /\ True))))) False)))) False)) False)))))))))))) := by kernel_rfl
theorem cRo_ok : ∀ f a rows p v news, cRo f a rows = some (p, v, news) → p → Con Try.prog f a rows v (rows ++ news) := by
  intro f a rows p v news h hp
  unfold cRo at h
  split at h <;> simp only [Option.some.injEq, Prod.mk.injEq, reduceCtorEq] at h <;> obtain ⟨rfl, rfl, rfl⟩ := h
  · exact Rtk_con (L _) hp
  · exact Rlw_con (L _) hp
  · exact Ru_con (L _) hp
theorem Ro_piece : PieceOk ERo 0 (37, pRo, specRo) := by
  refine piece_loop mixed (calls_envC cRo_ok) (lok_envC _ _ _) lm_none (n := 60) (by kernel_rfl) (fun _ : List UInt8 => (0 : Nat)) (fun l i => i ≤ l.length ∧ (61 : UInt8) ∉ l.take i) (fun l i => l.length - i) (sl := slRo) (rl := fun l _ => rlRo l) (fun l hg => ⟨Nat.zero_le _, by simp⟩) (fun l i hg hi => ?_)
  refine (Ro_round l i _ _).mpr ?_
  obtain ⟨h1, h2⟩ := hi
  have hm : maxLen = 9223372036854775807 := by unfold maxLen; rfl
  simp only [ofNat_eq, toNat_cast, Nat.zero_add, Nat.add_zero, Nat.mul_one, List.drop_zero, bCells_len, bCells_drop, bCells_take, bCells_app, bCells_one, bCells_plain, List.length_replicate, List.length_append, List.length_take, List.length_drop, List.take_length, and_true, true_and, and_self, decide_true, List.length_nil, List.length_cons, Nat.sub_zero, dB_mk, dB_ro, List.take_zero, bs_d, bs_nil]
  refine br_if (fun h => br_dec (by omega) ?_) (fun h => ⟨i, ⟨h1, h2, fun h => by omega⟩, rfl⟩)
  have hi : i < l.length := by omega
  have w := i64_succ (show i < 9223372036854775807 by omega)
  simp only [w, byteAt_bs hi]
  refine br_intro (fun k1 => ⟨i + 1, ⟨by omega, ?_⟩, by omega, rfl⟩) (fun k1 => ⟨i, ⟨h1, h2, fun _ => ?_⟩, rfl⟩)
  · rw [List.take_succ_eq_append_getElem hi]
    intro h3
    rcases List.mem_append.1 h3 with h3 | h3
    · exact h2 h3
    · simp at h3; rw [← h3] at k1; simp at k1
  · have e61 : l[i] = 61 := (u8_nat (n := 61) (by omega)).1 (by simpa using k1)
    rw [List.getD_eq_getElem?_getD, List.getElem?_eq_getElem hi, ← e61]; rfl
theorem Ro_con (l : List UInt8) (hl : l.length ≤ 16777000) : Con Try.prog 37 [.string (bs l)] [] (.tuple #[.agg ⟨enP (prZ (ofL l))⟩, .bool (ofL l).isSome]) [] := by
  refine con_vc (E := ERo) mixed (calls_envC cRo_ok) (lok_envC _ _ _) (M := mRo) (lm_one Ro_piece) (Ro_vc l _ _) ?_
  simp only [ofNat_eq, toNat_cast, Nat.zero_add, Nat.add_zero, Nat.mul_one, List.drop_zero, bCells_len, bCells_drop, bCells_take, bCells_app, bCells_one, bCells_plain, List.length_replicate, List.length_append, List.length_take, List.length_drop, List.take_length, and_true, true_and, and_self, decide_true, List.length_nil, List.length_cons, Nat.sub_zero, dB_mk, dB_ro, List.take_zero, bs_d, bs_nil, strEq_bs, tokS_bs, lowS_bs, bs_len]
  have hm : maxLen = 9223372036854775807 := by unfold maxLen; rfl
  refine ⟨l, hl, rfl, rfl, rfl, fun i hi => ?_⟩
  obtain ⟨h1, h2, h3⟩ := hi
  refine br_intro (fun k => ⟨by omega, ?_⟩) (fun k => ?_)
  · have hil : i = l.length := by
      have : (i : Int) = l.length := by simpa using k
      omega
    rw [List.take_of_length_le (by omega)] at h2
    refine br_intro (fun k2 => ?_) (fun k2 => ⟨by omega, ?_⟩)
    · have e : ofL l = none := by unfold ofL; rw [if_neg (by simpa using k2), if_neg h2]
      rw [e]; exact ⟨rfl, rfl, rfl, rfl⟩
    · have e : ofL l = some ⟨lowerL l, [], false⟩ := by unfold ofL; rw [if_pos (by simpa using k2)]
      rw [e]; exact ⟨rfl, rfl, rfl, rfl⟩
  have hi : i < l.length := by
    have : (i : Int) ≠ l.length := by simpa using k
    omega
  have e61 : l[i] = 61 := by
    have := h3 hi
    rw [List.getD_eq_getElem?_getD, List.getElem?_eq_getElem hi] at this
    exact this
  obtain ⟨t1, t2⟩ := eq_split l i hi h2 e61
  have hmem : (61 : UInt8) ∈ l := by rw [← e61]; exact List.getElem_mem hi
  have g2 : tokL l = false := by
    unfold tokL
    have : allTk l = false := by
      unfold allTk
      rw [List.all_eq_false]
      exact ⟨61, hmem, by decide⟩
    rw [this]; rfl
  have w := i64_succ (show i < 9223372036854775807 by omega)
  have hof : ofL l = match unqL (l.drop (i + 1)) with
      | none => none
      | some v => if tokL (l.take i) then some ⟨lowerL (l.take i), v, true⟩ else none := by
    unfold ofL; rw [if_neg (by simp [g2]), if_pos hmem, t1, t2, List.drop_drop]
    cases unqL (l.drop (i + 1)) <;> rfl
  have s1 : sub (bs l) (i + 1) l.length = bs (l.drop (i + 1)) := by rw [sub_bs]; congr 1; exact List.take_of_length_le (by simp)
  have s2 : sub (bs l) 0 i = bs (l.take i) := by rw [sub_bs]; simp
  have hu : unqB (bs (l.drop (i + 1))) = (unqL (l.drop (i + 1))).isSome := rfl
  have hv : unqV (bs (l.drop (i + 1))) = bs ((unqL (l.drop (i + 1))).getD []) := rfl
  simp only [w, toNat_cast, s1, s2, tokS_bs, lowS_bs, bs_len, hu, hv]
  refine br_dec (by omega) ⟨by simp; omega, br_dec (by omega) ⟨by simp; omega, br_intro (fun k3 => ?_) (fun k3 => br_intro (fun k2 => ?_) (fun k2 => br_dec (by omega) ⟨by simp; omega, ?_⟩))⟩⟩
  · have e : ofL l = none := by
      rw [hof]
      cases unqL (l.drop (i + 1)) with
      | none => rfl
      | some v => simp only; rw [if_neg (by simpa using k3)]
    rw [e]; exact ⟨rfl, rfl, rfl, rfl⟩
  · have : unqL (l.drop (i + 1)) = none := by simpa using k2
    rw [this] at hof; rw [hof]; exact ⟨rfl, rfl, rfl, rfl⟩
  · obtain ⟨v, hv⟩ : ∃ v, unqL (l.drop (i + 1)) = some v := Option.isSome_iff_exists.1 (by simpa using k2)
    rw [hv] at hof ⊢; simp only at hof
    rw [if_pos (by simpa using k3)] at hof
    rw [hof]; exact ⟨rfl, rfl, rfl, rfl⟩
end Go.Proofs.Ytajfdcijpchjdaa.tk
