/- The values of a name's fields, by the document. -/
import Derived.Test.YtideeogedleabaaSz9
import Derived.Test.YtideeogedleabaaRows
import Derived.Test.YtideeogedleabaaLtok
set_option maxRecDepth 20000
set_option linter.unusedSimpArgs false
set_option linter.unusedVariables false
namespace Go.Proofs.Ytideeogedleabaa.tk
open Go Go.Ev Go.Sy Go.RowKit Go.Proofs.Ytideeogedleabaa.gl
def pRa : List Nat := [0, 1, 0, 1, 1]
structure GRa where
  l : List Fl
  nm : List UInt8
structure StRa where
  acc : List UInt8
  k : Nat
  i : Nat
def slRa (g : GRa) (s : StRa) : List (Nat × Value) := [(0, .slice (some ⟨0, 0, none⟩) g.l.length 2), (1, .string (bs g.nm)), (6, .string (bs s.acc)), (7, .int .i64 (s.k : Nat)), (8, .int .i64 (s.i : Nat))]
def rlRa (g : GRa) (_ : StRa) : List (Nat × Row) := [(0, gRo enF g.l)]
def wsRa (g : GRa) : List (Gate Unit) := [⟨.exit 0, fun _ => True, fun _ => [(6, .string (bs (allL g.l g.nm))), (7, .int .i64 (allN g.nm g.l : Nat))], fun _ => [(0, gRo enF g.l)], 1⟩]
def specRa : Sy.Spec := specOf 1 1 37 (fun g : GRa => g.l.length ≤ maxLen ∧ (allL g.l g.nm).length ≤ 16777216) (fun g => slRa g ⟨[], 0, 0⟩) (fun g => rlRa g ⟨[], 0, 0⟩) wsRa
def mRa := mOf [(52, pRa, specRa)]
theorem Ra_round (g : GRa) (s : StRa) (Inv : StRa → Prop) (m : StRa → Nat) : mev E0 noM 60 52 (0 :: pRa) false (codeOf Try.prog 52 (0 :: pRa)) ⟨mkOv (slRa g s), 37, []⟩ none ⟨mkR (rlRa g s), 1⟩ (roundK 1 1 37 Inv m (slRa g) (rlRa g) (wsRa g) s) =
  let z1 := ((Eq (α := List Value) (gC enF g.1) (gC enF g.1)) /\ ((Plain (gC enF g.1)) /\ True)); let z2 := (cellS (gC enF g.1) (0 + Int.toNat (↑s.3 : Int) * 2 + 1)); let z3
  := (decide ((0 : Int) <= (↑s.3 : Int) /\ (↑s.3 : Int) < (↑(List.length g.1) : Int))); let z4 := (Eq (α := Option Value) ((gC enF g.1)[0 + Int.toNat (↑s.3 : Int) * 2 + 1]?)
  (some (Value.string z2))); let z5 := (cellS (gC enF g.1) (0 + Int.toNat (↑s.3 : Int) * 2 + 0)); (br (decide ((↑s.3 : Int) < Int.ofNat (List.length g.1))) (br z3 ((Eq (α :=
  Option Value) ((gC enF g.1)[0 + Int.toNat (↑s.3 : Int) * 2 + 0]?) (some (Value.string z5))) /\ (br (!strEq z5 (bs g.2)) (∃ j : StRa, ((Inv j) /\ ((m j < m s) /\ ((0 = 0)
  /\ ((List.length g.1 = List.length g.1) /\ ((bs g.2 = bs g.2) /\ ((bs j.1 = bs s.1) /\ (((↑j.2 : Int) = (↑s.2 : Int)) /\ (((↑j.3 : Int) = IntKind.wrap IntKind.i64 ((↑s.3 :
  Int) + (1 : Int))) /\ z1))))))))) (br (decide ((↑s.2 : Int) > (0 : Int))) (br (decide (List.length (Array.toList (ByteArray.data (bs s.1))) + 2 <= 9223372036854775807))
  (br z3 (z4 /\ (br (decide (List.length (Array.toList (ByteArray.data (bs s.1)) ++ [44, 32]) + List.length (Array.toList (ByteArray.data z2)) <= 9223372036854775807)) (∃ j
  : StRa, ((Inv j) /\ ((m j < m s) /\ ((0 = 0) /\ ((List.length g.1 = List.length g.1) /\ ((bs g.2 = bs g.2) /\ ((bs j.1 = bs s.1 ++ ByteArray.mk #[44, 32] ++ cellS (gC enF
  g.1) (0 + Int.toNat (↑s.3 : Int) * 2 + 1)) /\ (((↑j.2 : Int) = IntKind.wrap IntKind.i64 ((↑s.2 : Int) + (1 : Int))) /\ (((↑j.3 : Int) = IntKind.wrap IntKind.i64 ((↑s.3 :
  Int) + (1 : Int))) /\ z1))))))))) False)) False) False) (br z3 (z4 /\ (br (decide (List.length (Array.toList (ByteArray.data (bs s.1))) + List.length (Array.toList
  (ByteArray.data z2)) <= 9223372036854775807)) (∃ j : StRa, ((Inv j) /\ ((m j < m s) /\ ((0 = 0) /\ ((List.length g.1 = List.length g.1) /\ ((bs g.2 = bs g.2) /\ ((bs j.1 =
  bs s.1 ++ cellS (gC enF g.1) (0 + Int.toNat (↑s.3 : Int) * 2 + 1)) /\ (((↑j.2 : Int) = IntKind.wrap IntKind.i64 ((↑s.2 : Int) + (1 : Int))) /\ (((↑j.3 : Int) =
  IntKind.wrap IntKind.i64 ((↑s.3 : Int) + (1 : Int))) /\ z1))))))))) False)) False)))) False) (∃ y : Unit, ((True) /\ ((bs (allL g.1 g.2) = bs s.1) /\ (((↑(allN g.2 g.1) :
  Int) = (↑s.2 : Int)) /\ z1))))) := by kernel_rfl
theorem Ra_vc (l : List Fl) (nm v : List UInt8) (n : Int) : mcall E0 mRa 60 52 [.slice (some ⟨0, 0, none⟩) l.length 2, .string (bs nm)] ⟨mkR (nums 0 [gRo enF l]), 1⟩ (retIs 1 (.tuple #[.string (bs v), .int .i64 n]) [gRo enF l]) =
  (∃ g : GRa, ((List.length g.1 <= 9223372036854775807 /\ List.length (allL g.1 g.2) <= 16777216) /\ ((0 = 0) /\ ((List.length g.1 = List.length l) /\ ((bs g.2 = bs nm) /\
  ((bs (StRa.acc (StRa.mk [] 0 0)) = ByteArray.mk #[]) /\ (((0 : Int) = (0 : Int)) /\ (((0 : Int) = (0 : Int)) /\ ((Eq (α := List Value) (gC enF g.1) (gC enF l)) /\ ((Plain
  (gC enF g.1)) /\ (∀ (y : Unit), ((True) → ((bs v = bs (allL g.1 g.2)) /\ ((n = (↑(allN g.2 g.1) : Int)) /\ ((Eq (α := List Value) (gC enF l) (gC enF g.1)) /\ ((Plain (gC
  enF l)) /\ True)))))))))))))))) := by kernel_rfl
theorem Ra_piece : PieceOk E0 1 (52, pRa, specRa) := by
  refine piece_loop mixed (calls_envN _) (lok_envN _) lm_none (n := 60) (by kernel_rfl) (fun _ : GRa => (⟨[], 0, 0⟩ : StRa)) (fun g s => s.i ≤ g.l.length ∧ s.k ≤ s.i ∧ allS g.nm (g.l.drop s.i) s.acc s.k = allL g.l g.nm ∧ s.k + allN g.nm (g.l.drop s.i) = allN g.nm g.l) (fun g s => g.l.length - s.i) (sl := slRa) (rl := rlRa) (fun g hg => ⟨Nat.zero_le _, Nat.le_refl _, rfl, by simp⟩) (fun g s hg hi => ?_)
  refine (Ra_round g s _ _).mpr ?_
  obtain ⟨l, nm⟩ := g
  obtain ⟨acc, k, i⟩ := s
  obtain ⟨h1, h2, h3, h4⟩ := hi
  obtain ⟨g1, g2⟩ := hg
  have hm : maxLen = 9223372036854775807 := by unfold maxLen; rfl
  simp only at h1 h2 h3 h4 g1 g2
  simp only [ofNat_eq, toNat_cast, Nat.zero_add, Nat.add_zero, Nat.mul_one, List.drop_zero, bCells_len, bCells_drop, bCells_take, bCells_app, bCells_one, bCells_plain, List.length_replicate, List.length_append, List.length_take, List.length_drop, List.take_length, and_true, true_and, and_self, decide_true, List.length_nil, List.length_cons, Nat.sub_zero, dB_mk, dB_ro, List.take_zero, bs_d, bs_nil, fPl]
  refine br_if (fun h => br_dec (by omega) ?_) (fun h => ?_)
  rotate_left
  · have hz : l.drop i = [] := List.drop_eq_nil_of_le (by omega)
    rw [hz] at h3 h4
    have h3 : acc = allL l nm := h3
    have h4 : k = allN nm l := by simpa [allN] using h4
    subst h3; subst h4
    exact ⟨(), rfl, rfl⟩
  have hi : i < l.length := by omega
  obtain ⟨c1, c2, c3, c4⟩ := fGet l i hi
  have hd := List.drop_eq_getElem_cons hi
  rw [hd, allS] at h3
  rw [hd, allN_cons] at h4
  have w := i64_succ (show i < 9223372036854775807 by omega)
  have w2 := i64_succ (show k < 9223372036854775807 by omega)
  have e2 : (⟨#[44, 32]⟩ : ByteArray) = bs [44, 32] := rfl
  simp only [c1, c2, c3, c4, strEq_bs, true_and, w, w2, e2, bs_app, bs_d]
  by_cases hn : l[i].n = nm
  · rw [if_pos hn] at h3 h4
    have hlen := allS_len nm (l.drop (i + 1)) (acc ++ (if k = 0 then [] else [44, 32]) ++ l[i].v) (k + 1)
    rw [h3] at hlen
    simp only [List.length_append] at hlen
    refine br_nb (by simp [hn]) (br_if (fun h5 => ?_) (fun h5 => ?_))
    · rw [if_neg (show k ≠ 0 by omega)] at h3 hlen
      simp only [List.length_cons, List.length_nil] at hlen
      refine br_dec (by omega) (br_dec (by omega) (br_dec (by omega) ?_))
      exact ⟨⟨acc ++ [44, 32] ++ l[i].v, k + 1, i + 1⟩, ⟨by simp only; omega, by simp only; omega, h3, by simp only; omega⟩, by simp only; omega, rfl, rfl, rfl⟩
    · have hk : k = 0 := by omega
      rw [if_pos hk] at h3 hlen
      simp only [List.append_nil, List.length_nil] at hlen h3
      refine br_dec (by omega) (br_dec (by omega) ?_)
      exact ⟨⟨acc ++ l[i].v, k + 1, i + 1⟩, ⟨by simp only; omega, by simp only; omega, h3, by simp only; omega⟩, by simp only; omega, rfl, rfl, rfl⟩
  · rw [if_neg hn] at h3 h4
    exact br_b (by simp [hn]) ⟨⟨acc, k, i + 1⟩, ⟨by simp only; omega, by simp only; omega, h3, h4⟩, by simp only; omega, rfl, rfl, rfl⟩
theorem Ra_con (l : List Fl) (nm : List UInt8) (hl : l.length ≤ maxLen) (h : (allL l nm).length ≤ 16777216) : Con Try.prog 52 [.slice (some ⟨0, 0, none⟩) l.length 2, .string (bs nm)] [gRo enF l] (.tuple #[.string (bs (allL l nm)), .int .i64 (allN nm l : Nat)]) [gRo enF l] := by
  refine con_vc (E := E0) mixed (calls_envN _) (lok_envN _) (M := mRa) (lm_one Ra_piece) (Ra_vc l nm _ _) ?_
  simp only [ofNat_eq, toNat_cast, Nat.zero_add, Nat.add_zero, Nat.mul_one, List.drop_zero, bCells_len, bCells_drop, bCells_take, bCells_app, bCells_one, bCells_plain, List.length_replicate, List.length_append, List.length_take, List.length_drop, List.take_length, and_true, true_and, and_self, decide_true, List.length_nil, List.length_cons, Nat.sub_zero, dB_mk, dB_ro, List.take_zero, bs_d, bs_nil, fPl]
  exact ⟨⟨l, nm⟩, ⟨by simpa [maxLen] using hl, h⟩, rfl, rfl, rfl, fun _ _ => ⟨rfl, rfl, rfl⟩⟩
end Go.Proofs.Ytideeogedleabaa.tk
