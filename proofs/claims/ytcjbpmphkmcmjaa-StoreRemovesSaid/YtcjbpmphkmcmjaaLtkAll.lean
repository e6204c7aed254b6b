/- The values of a name's fields. -/
import Derived.Test.YtcjbpmphkmcmjaaSz9
import Derived.Test.YtcjbpmphkmcmjaaRows
import Derived.Test.YtcjbpmphkmcmjaaLk9
set_option maxRecDepth 20000
set_option linter.unusedSimpArgs false
set_option linter.unusedVariables false
namespace Go.Proofs.Ytcjbpmphkmcmjaa.tk
open Go Go.Ev Go.Sy Go.RowKit Go.Proofs.Ytcjbpmphkmcmjaa.gl
def pAl : List Nat := [0, 1, 0, 1, 1]
structure GAl where
  l : List Fl
  nm : List UInt8
structure StAl where
  acc : List UInt8
  k : Nat
  i : Nat
def slAl (g : GAl) (s : StAl) : List (Nat × Value) := [(1, .string (bs g.nm)), (6, slc 1 s.acc.length), (7, .int .i64 (s.k : Nat)), (10, .slice (some ⟨0, 0, none⟩) g.l.length 2), (11, .int .i64 (g.l.length : Nat)), (12, .int .i64 (s.i : Nat))]
def rlAl (g : GAl) (s : StAl) : List (Nat × Row) := [(0, gRo enF g.l), (1, bOwn s.acc)]
def wsAl (g : GAl) : List (Gate Unit) := [⟨.exit 0, fun _ => True, fun _ => [(6, slc 1 (allL g.l g.nm).length), (7, .int .i64 (allN g.nm g.l : Nat))], fun _ => [(0, gRo enF g.l), (1, bOwn (allL g.l g.nm))], 2⟩]
def specAl : Sy.Spec := specOf 1 2 34 (fun g : GAl => g.l.length ≤ maxLen ∧ (allL g.l g.nm).length ≤ 16777216) (fun g => slAl g ⟨[], 0, 0⟩) (fun g => rlAl g ⟨[], 0, 0⟩) wsAl
def mAl := mOf [(54, pAl, specAl)]
theorem Al_round (g : GAl) (s : StAl) (Inv : StAl → Prop) (m : StAl → Nat) : mev E0 noM 60 54 (0 :: pAl) false (codeOf Try.prog 54 (0 :: pAl)) ⟨mkOv (slAl g s), 34, []⟩ none ⟨mkR (rlAl g s), 2⟩ (roundK 1 2 34 Inv m (slAl g) (rlAl g) (wsAl g) s) =
  let z1 := (Array.toList (ByteArray.data (cellS (gC enF g.1) (0 + Int.toNat (↑s.3 : Int) * 2 + 1)))); let z2 := (List.take (List.length s.1 * 1) (List.drop 0 (bCells s.1))
  ++ [Value.int IntKind.u8 (44 : Int), Value.int IntKind.u8 (32 : Int)]); let z3 := (Eq (α := List Value) (gC enF g.1) (gC enF g.1)); let z4 := ((↑(List.length g.1) : Int) =
  (↑(List.length g.1) : Int)); let z5 := (decide (0 + List.length s.1 * 1 <= List.length (bCells s.1))); let z6 := (cellS (gC enF g.1) (0 + Int.toNat (↑s.3 : Int) * 2)); (br
  (decide ((↑s.3 : Int) < (↑(List.length g.1) : Int))) (br (decide ((0 : Int) <= (↑s.3 : Int) /\ (↑s.3 : Int) < (↑(List.length g.1) : Int))) ((Eq (α := Option Value) ((gC
  enF g.1)[0 + Int.toNat (↑s.3 : Int) * 2]?) (some (Value.string z6))) /\ ((Eq (α := Option Value) ((gC enF g.1)[0 + Int.toNat (↑s.3 : Int) * 2 + 1]?) (some (Value.string
  (cellS (gC enF g.1) (0 + Int.toNat (↑s.3 : Int) * 2 + 1))))) /\ (br (!strEq z6 (bs g.2)) (∃ j : StAl, ((Inv j) /\ ((m j < m s) /\ ((bs g.2 = bs g.2) /\ ((0 = 0) /\
  ((List.length j.1 = List.length s.1) /\ (((↑j.2 : Int) = (↑s.2 : Int)) /\ ((0 = 0) /\ ((List.length g.1 = List.length g.1) /\ (z4 /\ (((↑j.3 : Int) = IntKind.wrap
  IntKind.i64 ((↑s.3 : Int) + (1 : Int))) /\ (z3 /\ ((Plain (gC enF g.1)) /\ ((Eq (α := List Value) (bCells j.1) (bCells s.1)) /\ ((Plain (bCells j.1)) /\
  True))))))))))))))) (br (decide ((↑s.2 : Int) > (0 : Int))) (br (decide (List.length s.1 + 2 <= 16777216)) (br z5 (br (allOne (List.map (fun b ↦ Value.int IntKind.u8
  (↑(UInt8.toNat b) : Int)) z1)) (br (decide (List.length s.1 + 2 + List.length z1 <= 16777216)) (br (decide (0 < List.length s.1 + 2 + List.length z1 ∨ List.length z2 = 0))
  (br (decide (0 + (List.length s.1 + 2) * 1 <= List.length z2)) (∃ j : StAl, ((Inv j) /\ ((m j < m s) /\ ((bs g.2 = bs g.2) /\ ((0 = 0) /\ ((List.length j.1 = List.length
  s.1 + 2 + List.length z1) /\ (((↑j.2 : Int) = IntKind.wrap IntKind.i64 ((↑s.2 : Int) + (1 : Int))) /\ ((0 = 0) /\ ((List.length g.1 = List.length g.1) /\ (z4 /\ (((↑j.3 :
  Int) = IntKind.wrap IntKind.i64 ((↑s.3 : Int) + (1 : Int))) /\ (z3 /\ ((Plain (gC enF g.1)) /\ ((Eq (α := List Value) (bCells j.1) (List.take ((List.length s.1 + 2) * 1)
  (List.drop 0 z2) ++ List.map (fun b ↦ Value.int IntKind.u8 (↑(UInt8.toNat b) : Int)) z1)) /\ ((Plain (bCells j.1)) /\ True))))))))))))))) False) (∃ j : StAl, ((Inv j) /\
  ((m j < m s) /\ ((bs g.2 = bs g.2) /\ ((0 = 0) /\ ((List.length j.1 = List.length s.1 + 2) /\ (((↑j.2 : Int) = IntKind.wrap IntKind.i64 ((↑s.2 : Int) + (1 : Int))) /\ ((0
  = 0) /\ ((List.length g.1 = List.length g.1) /\ (z4 /\ (((↑j.3 : Int) = IntKind.wrap IntKind.i64 ((↑s.3 : Int) + (1 : Int))) /\ (z3 /\ ((Plain (gC enF g.1)) /\ ((Eq (α :=
  List Value) (bCells j.1) z2) /\ ((Plain (bCells j.1)) /\ True)))))))))))))))) False) False) False) False) (br (allOne (List.map (fun b ↦ Value.int IntKind.u8
  (↑(UInt8.toNat b) : Int)) z1)) (br (decide (List.length s.1 + List.length z1 <= 16777216)) (br (decide (0 < List.length s.1 + List.length z1 ∨ List.length (bCells s.1) =
  0)) (br z5 (∃ j : StAl, ((Inv j) /\ ((m j < m s) /\ ((bs g.2 = bs g.2) /\ ((0 = 0) /\ ((List.length j.1 = List.length s.1 + List.length z1) /\ (((↑j.2 : Int) =
  IntKind.wrap IntKind.i64 ((↑s.2 : Int) + (1 : Int))) /\ ((0 = 0) /\ ((List.length g.1 = List.length g.1) /\ (z4 /\ (((↑j.3 : Int) = IntKind.wrap IntKind.i64 ((↑s.3 : Int)
  + (1 : Int))) /\ (z3 /\ ((Plain (gC enF g.1)) /\ ((Eq (α := List Value) (bCells j.1) (List.take (List.length s.1 * 1) (List.drop 0 (bCells s.1)) ++ List.map (fun b ↦
  Value.int IntKind.u8 (↑(UInt8.toNat b) : Int)) z1)) /\ ((Plain (bCells j.1)) /\ True))))))))))))))) False) (∃ j : StAl, ((Inv j) /\ ((m j < m s) /\ ((bs g.2 = bs g.2) /\
  ((0 = 0) /\ ((List.length j.1 = List.length s.1) /\ (((↑j.2 : Int) = IntKind.wrap IntKind.i64 ((↑s.2 : Int) + (1 : Int))) /\ ((0 = 0) /\ ((List.length g.1 = List.length
  g.1) /\ (z4 /\ (((↑j.3 : Int) = IntKind.wrap IntKind.i64 ((↑s.3 : Int) + (1 : Int))) /\ (z3 /\ ((Plain (gC enF g.1)) /\ ((Eq (α := List Value) (bCells j.1) (bCells s.1))
  /\ ((Plain (bCells j.1)) /\ True)))))))))))))))) False) False))))) False) (∃ y : Unit, ((True) /\ ((0 = 0) /\ ((List.length (allL g.1 g.2) = List.length s.1) /\ (((↑(allN
  g.2 g.1) : Int) = (↑s.2 : Int)) /\ (z3 /\ ((Plain (gC enF g.1)) /\ ((Eq (α := List Value) (bCells (allL g.1 g.2)) (bCells s.1)) /\ ((Plain (bCells (allL g.1 g.2))) /\
  True)))))))))) := by kernel_rfl
theorem Al_vc (l : List Fl) (nm v : List UInt8) (n : Int) : mcall E0 mAl 60 54 [.slice (some ⟨0, 0, none⟩) l.length 2, .string (bs nm)] ⟨mkR (nums 0 [gRo enF l]), 1⟩ (retIs 1 (.tuple #[.string (bs v), .int .i64 n]) [gRo enF l]) =
  (∃ g : GAl, let w1 := (List.take (List.length (allL g.1 g.2)) (List.drop 0 (bCells (allL g.1 g.2)))); ((List.length g.1 <= 9223372036854775807 /\ List.length (allL g.1
  g.2) <= 16777216) /\ ((bs g.2 = bs nm) /\ ((0 = 0) /\ (((0 : Int) = (0 : Int)) /\ ((0 = 0) /\ ((List.length g.1 = List.length l) /\ (((↑(List.length g.1) : Int) =
  Int.ofNat (List.length l)) /\ (((0 : Int) = (0 : Int)) /\ ((Eq (α := List Value) (gC enF g.1) (gC enF l)) /\ ((Plain (gC enF g.1)) /\ ((Eq (α := List Value) ([]) ([])) /\
  (∀ (y : Unit), ((True) → (br (decide (0 + List.length (allL g.1 g.2) <= List.length (bCells (allL g.1 g.2)))) ((AllB w1) /\ ((bs v = ByteArray.mk (Array.mk (List.map bOf
  w1))) /\ ((n = (↑(allN g.2 g.1) : Int)) /\ ((Eq (α := List Value) (gC enF l) (gC enF g.1)) /\ ((Plain (gC enF l)) /\ True))))) False))))))))))))))) := by kernel_rfl
theorem Al_piece : PieceOk E0 1 (54, pAl, specAl) := by
  refine piece_loop mixed (calls_envN _) (lok_envN _) lm_none (n := 60) (by kernel_rfl) (fun _ : GAl => (⟨[], 0, 0⟩ : StAl)) (fun g s => s.i ≤ g.l.length ∧ s.k ≤ s.i ∧ allS g.nm (g.l.drop s.i) s.acc s.k = allL g.l g.nm ∧ s.k + allN g.nm (g.l.drop s.i) = allN g.nm g.l) (fun g s => g.l.length - s.i) (sl := slAl) (rl := rlAl) (fun g hg => ⟨Nat.zero_le _, Nat.le_refl _, rfl, by simp⟩) (fun g s hg hi => ?_)
  refine (Al_round g s _ _).mpr ?_
  obtain ⟨l, nm⟩ := g
  obtain ⟨acc, k, i⟩ := s
  obtain ⟨h1, h2, h3, h4⟩ := hi
  obtain ⟨g1, g2⟩ := hg
  have hm : maxLen = 9223372036854775807 := by unfold maxLen; rfl
  simp only at h1 h2 h3 h4 g1 g2
  simp only [ofNat_eq, toNat_cast, Nat.zero_add, Nat.add_zero, Nat.mul_one, List.drop_zero, bCells_len, bCells_drop, bCells_take, bCells_app, bCells_one, bCells_plain, List.length_replicate, List.length_append, List.length_take, List.length_drop, List.take_length, and_true, true_and, and_self, decide_true, List.length_nil, List.length_cons, Nat.sub_zero, dB_mk, dB_ro, List.take_zero, bs_d, bs_nil, fPl]
  refine br_if (fun h => br_dec (by omega) ?_) (fun h => ?_)
  rotate_left
  · have hz : l.drop i = [] := List.drop_eq_nil_of_le (by omega)
    rw [hz] at h3 h4
    have h3 : acc = allL l nm := h3
    have h4 : k = allN nm l := by simpa [allN] using h4
    subst h3; subst h4
    exact ⟨(), rfl, rfl, rfl⟩
  have hi : i < l.length := by omega
  obtain ⟨c1, c2, c3, c4⟩ := fGet l i hi
  have hd := List.drop_eq_getElem_cons hi
  rw [hd, allS] at h3
  rw [hd, allN_cons] at h4
  have w := i64_succ (show i < 9223372036854775807 by omega)
  have w2 := i64_succ (show k < 9223372036854775807 by omega)
  have hvv : ∀ l : List UInt8, l.map (fun b => Value.int .u8 (b.toNat : Int)) = bCells l := fun l => rfl
  have e2 : [Value.int IntKind.u8 44, Value.int IntKind.u8 32] = bCells [44, 32] := rfl
  simp only [c1, c2, c3, c4, strEq_bs, true_and, w, w2, bs_d, hvv, bCells_one, e2, bCells_app, bCells_take]
  by_cases hn : l[i].n = nm
  · rw [if_pos hn] at h3 h4
    have hlen := allS_len nm (l.drop (i + 1)) (acc ++ (if k = 0 then [] else [44, 32]) ++ l[i].v) (k + 1)
    rw [h3] at hlen
    simp only [List.length_append] at hlen
    refine br_nb (by simp [hn]) (br_if (fun h5 => ?_) (fun h5 => ?_))
    · rw [if_neg (show k ≠ 0 by omega)] at h3 hlen
      simp only [List.length_cons, List.length_nil] at hlen
      refine br_dec (by omega) (br_dec (by omega) (br_b rfl (br_dec (by omega) (br_dec (by omega) (br_dec (by omega) ?_)))))
      refine ⟨⟨acc ++ [44, 32] ++ l[i].v, k + 1, i + 1⟩, ⟨by simp only; omega, by simp only; omega, h3, by simp only; omega⟩, by simp only; omega, by simp; omega, rfl, rfl, ?_⟩
      rw [List.take_of_length_le (by simp)]
    · have hk : k = 0 := by omega
      rw [if_pos hk] at h3 hlen
      simp only [List.append_nil, List.length_nil] at hlen h3
      refine br_b rfl (br_dec (by omega) (br_dec (by omega) (br_dec (by omega) ?_)))
      exact ⟨⟨acc ++ l[i].v, k + 1, i + 1⟩, ⟨by simp only; omega, by simp only; omega, h3, by simp only; omega⟩, by simp only; omega, by simp, rfl, rfl, rfl⟩
  · rw [if_neg hn] at h3 h4
    exact br_b (by simp [hn]) ⟨⟨acc, k, i + 1⟩, ⟨by simp only; omega, by simp only; omega, h3, h4⟩, by simp only; omega, rfl, rfl, rfl, rfl⟩
theorem Al_con (l : List Fl) (nm : List UInt8) (hl : l.length ≤ maxLen) (h : (allL l nm).length ≤ 16777216) : Con Try.prog 54 [.slice (some ⟨0, 0, none⟩) l.length 2, .string (bs nm)] [gRo enF l] (.tuple #[.string (bs (allL l nm)), .int .i64 (allN nm l : Nat)]) [gRo enF l] := by
  refine con_vc (E := E0) mixed (calls_envN _) (lok_envN _) (M := mAl) (lm_one Al_piece) (Al_vc l nm _ _) ?_
  have hbb : ∀ l : List UInt8, (⟨(List.map bOf (bCells l)).toArray⟩ : ByteArray) = bs l := fun l => by rw [bCells_bOf]; rfl
  simp only [ofNat_eq, toNat_cast, Nat.zero_add, Nat.add_zero, Nat.mul_one, List.drop_zero, bCells_len, bCells_drop, bCells_take, bCells_app, bCells_one, bCells_plain, List.length_replicate, List.length_append, List.length_take, List.length_drop, List.take_length, and_true, true_and, and_self, decide_true, List.length_nil, List.length_cons, Nat.sub_zero, dB_mk, dB_ro, List.take_zero, bs_d, bs_nil, fPl, hbb]
  exact ⟨⟨l, nm⟩, ⟨by simpa [maxLen] using hl, h⟩, rfl, rfl, rfl, rfl, fun _ _ => br_dec (Nat.le_refl _) ⟨bCells_all _, rfl, rfl, rfl⟩⟩
end Go.Proofs.Ytcjbpmphkmcmjaa.tk
