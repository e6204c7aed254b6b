/- An element of a list as a pair. -/
import Derived.Test.YtideeogedleabaaSz9
import Derived.Test.YtideeogedleabaaRows
import Derived.Test.YtideeogedleabaaLtkUnq
import Derived.Test.YtideeogedleabaaLtkLower
set_option maxRecDepth 20000
set_option linter.unusedSimpArgs false
set_option linter.unusedVariables false
namespace Go.Proofs.Ytideeogedleabaa.tk
open Go Go.Ev Go.Sy Go.RowKit Go.Proofs.Ytideeogedleabaa.gl
def cOf : FuncId → List Value → List Row → Option (Prop × Value × List Row)
  | 67, [.string s], [] => some ((L s).length ≤ maxLen, .bool (tokS s), [])
  | 68, [.string s], [] => some ((L s).length ≤ maxLen, .string (lowS s), [])
  | 69, [.string s], [] => some ((L s).length ≤ 16777000, .tuple #[.string (unqV s), .bool (unqB s)], [])
  | _, _, _ => none
noncomputable abbrev EOf : Env := envC Try.prog cOf (fun f => Nat.beq f 67 || Nat.beq f 68 || Nat.beq f 69)
def pOf : List Nat := [0, 1, 0, 1, 1]
def prRow (p : Pr) : Row := ⟨enP p, false, .cells false⟩
def p0 : Pr := ⟨[], [], false⟩
def slOf (l : List UInt8) (i : Nat) : List (Nat × Value) := [(0, .string (bs l)), (2, .pointer (some ⟨0, 0, none⟩)), (13, .int .i64 (l.length : Nat)), (14, .int .i64 (i : Nat))]
def rlOf (_ : List UInt8) : List (Nat × Row) := [(0, prRow p0)]
def wsOf (l : List UInt8) : List (Gate Unit) := [⟨.exit 0, fun _ => (61 : UInt8) ∉ l, fun _ => [(2, .pointer (some ⟨0, 0, none⟩))], fun _ => [(0, prRow p0)], 1⟩, ⟨.ret, fun _ => True, fun _ => [(2, .pointer (some ⟨0, 0, none⟩)), (3, .bool (ofL l).isSome)], fun _ => [(0, prRow (prZ (ofL l)))], 1⟩]
def specOf' : Sy.Spec := specOf 0 1 47 (fun l : List UInt8 => l.length ≤ 16777000 ∧ tokL l = false) (fun l => slOf l 0) (fun l => rlOf l) wsOf
def mOf' := mOf [(57, pOf, specOf')]
theorem Of_round (l : List UInt8) (i : Nat) (Inv : Nat → Prop) (m : Nat → Nat) : mev EOf noM 60 57 (0 :: pOf) false (codeOf Try.prog 57 (0 :: pOf)) ⟨mkOv (slOf l i), 47, []⟩ none ⟨mkR (rlOf l), 1⟩ (roundK 0 1 47 Inv m (slOf l) (fun _ => rlOf l) (wsOf l) i) =
  (br (decide ((↑i : Int) < (↑(List.length l) : Int))) (br (decide ((0 : Int) <= (↑i : Int) /\ (↑i : Int) < (↑(List.length (Array.toList (ByteArray.data (bs l)))) : Int)))
  (br (byteAt (bs l) (Int.toNat (↑i : Int)) != (61 : Int)) (∃ j : Nat, ((Inv j) /\ ((m j < m i) /\ ((bs l = bs l) /\ ((0 = 0) /\ (((↑(List.length l) : Int) = (↑(List.length
  l) : Int)) /\ (((↑j : Int) = IntKind.wrap IntKind.i64 ((↑i : Int) + (1 : Int))) /\ ((bs (Pr.n p0) = bs (Pr.n p0)) /\ ((bs (Pr.v p0) = bs (Pr.v p0)) /\ ((false = false) /\
  True)))))))))) (br (decide ((0 : Int) <= IntKind.wrap IntKind.i64 ((↑i : Int) + (1 : Int)) /\ IntKind.wrap IntKind.i64 ((↑i : Int) + (1 : Int)) <= (↑(List.length
  (Array.toList (ByteArray.data (bs l)))) : Int) /\ (↑(List.length (Array.toList (ByteArray.data (bs l)))) : Int) <= (↑(List.length (Array.toList (ByteArray.data (bs l)))) :
  Int))) ((((True /\ True) /\ (True /\ List.length (L (sub (bs l) (Int.toNat (IntKind.wrap IntKind.i64 ((↑i : Int) + (1 : Int)))) (Int.toNat (↑(List.length (Array.toList
  (ByteArray.data (bs l)))) : Int)))) <= 16777000))) /\ (br (!unqB (sub (bs l) (Int.toNat (IntKind.wrap IntKind.i64 ((↑i : Int) + (1 : Int)))) (Int.toNat (↑(List.length
  (Array.toList (ByteArray.data (bs l)))) : Int)))) (∃ y : Unit, ((True) /\ ((0 = 0) /\ ((Option.isSome (ofL l) = false) /\ ((bs (prZ (ofL l)).1 = ByteArray.mk #[]) /\ ((bs
  (prZ (ofL l)).2 = ByteArray.mk #[]) /\ (((prZ (ofL l)).3 = false) /\ True))))))) (br (decide ((0 : Int) <= (↑0 : Int) /\ (0 : Int) <= (↑i : Int) /\ (↑i : Int) <=
  (↑(List.length (Array.toList (ByteArray.data (bs l)))) : Int))) ((((True /\ True) /\ (True /\ List.length (L (sub (bs l) 0 (Int.toNat (↑i : Int)))) <=
  9223372036854775807))) /\ (br (!tokS (sub (bs l) 0 (Int.toNat (↑i : Int)))) (∃ y : Unit, ((True) /\ ((0 = 0) /\ ((Option.isSome (ofL l) = false) /\ ((bs (prZ (ofL l)).1 =
  ByteArray.mk #[]) /\ ((bs (prZ (ofL l)).2 = ByteArray.mk #[]) /\ (((prZ (ofL l)).3 = false) /\ True))))))) (br (decide ((0 : Int) <= (↑0 : Int) /\ (0 : Int) <= (↑i : Int)
  /\ (↑i : Int) <= (↑(List.length (Array.toList (ByteArray.data (bs l)))) : Int))) ((((True /\ True) /\ (True /\ List.length (L (sub (bs l) 0 (Int.toNat (↑i : Int)))) <=
  9223372036854775807))) /\ (∃ y : Unit, ((True) /\ ((0 = 0) /\ ((Option.isSome (ofL l) = true) /\ ((bs (prZ (ofL l)).1 = lowS (sub (bs l) 0 (Int.toNat (↑i : Int)))) /\ ((bs
  (prZ (ofL l)).2 = unqV (sub (bs l) (Int.toNat (IntKind.wrap IntKind.i64 ((↑i : Int) + (1 : Int)))) (Int.toNat (↑(List.length (Array.toList (ByteArray.data (bs l)))) :
  Int)))) /\ (((prZ (ofL l)).3 = true) /\ True)))))))) False))) False))) False)) False) (∃ y : Unit, ((¬61 ∈ l) /\ ((0 = 0) /\ ((bs (Pr.n p0) = bs (Pr.n p0)) /\ ((bs (Pr.v
  p0) = bs (Pr.v p0)) /\ ((false = false) /\ True))))))) := by kernel_rfl
theorem Of_vc (l : List UInt8) (p : Pr) (x : Bool) : mcall EOf mOf' 60 57 [.string (bs l)] ⟨mkR (nums 0 []), 0⟩ (retIs 0 (.tuple #[.agg ⟨enP p⟩, .bool x]) []) =
  ((((True /\ True) /\ (True /\ List.length (L (bs l)) <= 9223372036854775807))) /\ (br (tokS (bs l)) ((((True /\ True) /\ (True /\ List.length (L (bs l)) <=
  9223372036854775807))) /\ ((bs p.1 = lowS (bs l)) /\ ((bs p.2 = ByteArray.mk #[]) /\ ((p.3 = false) /\ ((x = true) /\ True))))) (∃ g : List UInt8, ((List.length g <=
  16777000 /\ tokL g = false) /\ ((bs g = bs l) /\ ((0 = 0) /\ (((↑(List.length g) : Int) = Int.ofNat (List.length (Array.toList (ByteArray.data (bs l))))) /\ (((0 : Int) =
  (0 : Int)) /\ ((bs (Pr.n p0) = ByteArray.mk #[]) /\ ((bs (Pr.v p0) = ByteArray.mk #[]) /\ ((false = false) /\ (∀ (side : Bool), (br (side) (∀ (y : Unit), ((¬61 ∈ g) → ((bs
  p.1 = ByteArray.mk #[]) /\ ((bs p.2 = ByteArray.mk #[]) /\ ((p.3 = false) /\ ((x = false) /\ True)))))) (∀ (y : Unit), ((True) → ((bs p.1 = bs (prZ (ofL g)).1) /\ ((bs p.2
  = bs (prZ (ofL g)).2) /\ ((p.3 = (prZ (ofL g)).3) /\ ((x = Option.isSome (ofL g)) /\ True))))))))))))))))))) := by kernel_rfl
theorem cOf_ok : ∀ f a rows p v news, cOf f a rows = some (p, v, news) → p → Con Try.prog f a rows v (rows ++ news) := by
  intro f a rows p v news h hp
  unfold cOf at h
  split at h <;> simp only [Option.some.injEq, Prod.mk.injEq, reduceCtorEq] at h <;> obtain ⟨rfl, rfl, rfl⟩ := h
  · exact Tok_con (L _) hp
  · exact Low_con (L _) hp
  · exact Un_con (L _) hp
theorem Of_piece : PieceOk EOf 0 (57, pOf, specOf') := by
  refine piece_loop mixed (calls_envC cOf_ok) (lok_envC _ _ _) lm_none (n := 60) (by kernel_rfl) (fun _ : List UInt8 => (0 : Nat)) (fun l i => i ≤ l.length ∧ (61 : UInt8) ∉ l.take i) (fun l i => l.length - i) (sl := slOf) (rl := fun l _ => rlOf l) (fun l hg => ⟨Nat.zero_le _, by simp⟩) (fun l i hg hi => ?_)
  refine (Of_round l i _ _).mpr ?_
  obtain ⟨h1, h2⟩ := hi
  obtain ⟨g1, g2⟩ := hg
  have hm : maxLen = 9223372036854775807 := by unfold maxLen; rfl
  simp only [ofNat_eq, toNat_cast, Nat.zero_add, Nat.add_zero, Nat.mul_one, List.drop_zero, bCells_len, bCells_drop, bCells_take, bCells_app, bCells_one, bCells_plain, List.length_replicate, List.length_append, List.length_take, List.length_drop, List.take_length, and_true, true_and, and_self, decide_true, List.length_nil, List.length_cons, Nat.sub_zero, dB_mk, dB_ro, List.take_zero, bs_d, bs_nil]
  refine br_if (fun h => br_dec (by omega) ?_) (fun h => ⟨(), ?_⟩)
  rotate_left
  · rw [List.take_of_length_le (by omega)] at h2; exact h2
  have hi : i < l.length := by omega
  have w := i64_succ (show i < 9223372036854775807 by omega)
  simp only [w, toNat_cast, byteAt_bs hi]
  refine br_intro (fun k1 => ⟨i + 1, ⟨by omega, ?_⟩, by omega, rfl⟩) (fun k1 => ?_)
  · rw [List.take_succ_eq_append_getElem hi]
    intro h3
    rcases List.mem_append.1 h3 with h3 | h3
    · exact h2 h3
    · simp at h3; rw [← h3] at k1; simp at k1
  have e61 : l[i] = 61 := (u8_nat (n := 61) (by omega)).1 (by simpa using k1)
  obtain ⟨t1, t2⟩ := eq_split l i hi h2 e61
  have hmem : (61 : UInt8) ∈ l := by rw [← e61]; exact List.getElem_mem hi
  have hof : ofL l = match unqL (l.drop (i + 1)) with
      | none => none
      | some v => if tokL (l.take i) then some ⟨lowerL (l.take i), v, true⟩ else none := by
    unfold ofL; rw [if_neg (by simp [g2]), if_pos hmem, t1, t2, List.drop_drop]
    cases unqL (l.drop (i + 1)) <;> rfl
  have s1 : sub (bs l) (i + 1) l.length = bs (l.drop (i + 1)) := by rw [sub_bs]; congr 1; exact List.take_of_length_le (by simp)
  have s2 : sub (bs l) 0 i = bs (l.take i) := by rw [sub_bs]; simp
  simp only [s1, s2, tokS_bs, lowS_bs, bs_len]
  have hu : unqB (bs (l.drop (i + 1))) = (unqL (l.drop (i + 1))).isSome := rfl
  have hv : unqV (bs (l.drop (i + 1))) = bs ((unqL (l.drop (i + 1))).getD []) := rfl
  rw [hu, hv]
  refine br_dec (by omega) ⟨by simp; omega, br_intro (fun k2 => ?_) (fun k2 => br_dec (by omega) ⟨by simp; omega, br_intro (fun k3 => ?_) (fun k3 => br_dec (by omega) ⟨by simp; omega, (), ?_⟩)⟩)⟩
  · have : unqL (l.drop (i + 1)) = none := by simpa using k2
    rw [this] at hof; rw [hof]; exact ⟨(), rfl, rfl, rfl, rfl⟩
  · obtain ⟨v, hv⟩ : ∃ v, unqL (l.drop (i + 1)) = some v := Option.isSome_iff_exists.1 (by simpa using k2)
    rw [hv] at hof; simp only at hof
    rw [if_neg (by simpa using k3)] at hof
    rw [hof]; exact ⟨(), rfl, rfl, rfl, rfl⟩
  · obtain ⟨v, hv⟩ : ∃ v, unqL (l.drop (i + 1)) = some v := Option.isSome_iff_exists.1 (by simpa using k2)
    rw [hv] at hof ⊢; simp only at hof
    rw [if_pos (by simpa using k3)] at hof
    rw [hof]; exact ⟨rfl, rfl, rfl, rfl⟩
theorem Of_con (l : List UInt8) (hl : l.length ≤ 16777000) : Con Try.prog 57 [.string (bs l)] [] (.tuple #[.agg ⟨enP (prZ (ofL l))⟩, .bool (ofL l).isSome]) [] := by
  refine con_vc (E := EOf) mixed (calls_envC cOf_ok) (lok_envC _ _ _) (M := mOf') (lm_one Of_piece) (Of_vc l _ _) ?_
  simp only [ofNat_eq, toNat_cast, Nat.zero_add, Nat.add_zero, Nat.mul_one, List.drop_zero, bCells_len, bCells_drop, bCells_take, bCells_app, bCells_one, bCells_plain, List.length_replicate, List.length_append, List.length_take, List.length_drop, List.take_length, and_true, true_and, and_self, decide_true, List.length_nil, List.length_cons, Nat.sub_zero, dB_mk, dB_ro, List.take_zero, bs_d, bs_nil, strEq_bs, tokS_bs, lowS_bs, bs_len]
  have hm : maxLen = 9223372036854775807 := by unfold maxLen; rfl
  refine ⟨by omega, br_intro (fun k => ?_) (fun k => ?_)⟩
  · have e : ofL l = some ⟨lowerL l, [], false⟩ := by unfold ofL; rw [if_pos k]
    rw [e]; exact ⟨by omega, rfl, rfl, rfl, rfl⟩
  · refine ⟨l, ⟨hl, k⟩, rfl, rfl, rfl, rfl, br_side (fun _ h => ?_) (fun _ _ => ⟨rfl, rfl, rfl, rfl⟩)⟩
    have e : ofL l = none := by unfold ofL; rw [if_neg (by simp [k]), if_neg h]
    rw [e]; exact ⟨rfl, rfl, rfl, rfl⟩
end Go.Proofs.Ytideeogedleabaa.tk
