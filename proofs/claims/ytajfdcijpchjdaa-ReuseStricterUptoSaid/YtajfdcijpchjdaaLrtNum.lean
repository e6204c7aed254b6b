/- A number of a text, by the document. -/
import Derived.Test.YtajfdcijpchjdaaSz9
import Derived.Test.YtajfdcijpchjdaaRows
import Derived.Test.YtajfdcijpchjdaaLk9
set_option maxRecDepth 20000
set_option linter.unusedSimpArgs false
set_option linter.unusedVariables false
namespace Go.Proofs.Ytajfdcijpchjdaa.tk
open Go Go.Ev Go.Sy Go.RowKit Go.Proofs.Ytajfdcijpchjdaa.gl
def pRn : List Nat := [0, 1, 0, 1, 1, 1]
structure StRn where
  n : Int
  i : Nat
def slRn (l : List UInt8) (s : StRn) : List (Nat × Value) := [(0, .string (bs l)), (3, .int .i64 s.n), (4, .int .i64 (s.i : Nat))]
def wsRn (l : List UInt8) : List (Gate Nat) := [⟨.exit 0, fun n => secF l 0 = some n, fun n => [(3, .int .i64 (n : Nat))], fun _ => [], 0⟩, ⟨.ret, fun _ => secF l 0 = none, fun _ => [(2, .int .i64 (-1))], fun _ => [], 0⟩]
def specRn : Sy.Spec := specOf 0 0 35 (fun l : List UInt8 => l.length ≤ maxLen) (fun l => slRn l ⟨0, 0⟩) (fun _ => []) wsRn
def mRn := mOf [(23, pRn, specRn)]
theorem Rn_round (l : List UInt8) (s : StRn) (Inv : StRn → Prop) (m : StRn → Nat) : mev E0 noM 60 23 (0 :: pRn) false (codeOf Try.prog 23 (0 :: pRn)) ⟨mkOv (slRn l s), 35, []⟩ none ⟨mkR [], 0⟩ (roundK 0 0 35 Inv m (slRn l) (fun _ => []) (wsRn l) s) =
  let z1 := (decide ((0 : Int) <= (↑s.2 : Int) /\ (↑s.2 : Int) < (↑(List.length (Array.toList (ByteArray.data (bs l)))) : Int))); let z2 := (IntKind.wrap IntKind.i64 (s.1 *
  (10 : Int)) + IntKind.wrap IntKind.i64 (IntKind.wrap IntKind.u8 (byteAt (bs l) (Int.toNat (↑s.2 : Int)) - (48 : Int)))); let z3 := ((Eq (α := Option Nat) (secF l 0)
  (none)) /\ (((-1 : Int) = (-1 : Int)) /\ True)); (br (decide ((↑s.2 : Int) < Int.ofNat (List.length (Array.toList (ByteArray.data (bs l)))))) (br z1 (br (decide (byteAt
  (bs l) (Int.toNat (↑s.2 : Int)) < (48 : Int))) (∃ y : Nat, z3) (br z1 (br (decide (byteAt (bs l) (Int.toNat (↑s.2 : Int)) > (57 : Int))) (∃ y : Nat, z3) (br (decide (s.1 <
  (2147483647 : Int))) (br z1 (∃ j : StRn, ((Inv j) /\ ((m j < m s) /\ ((bs l = bs l) /\ ((j.1 = if (2147483647 : Int) < IntKind.wrap IntKind.i64 z2 then (2147483647 : Int)
  else IntKind.wrap IntKind.i64 z2) /\ (((↑j.2 : Int) = IntKind.wrap IntKind.i64 ((↑s.2 : Int) + (1 : Int))) /\ True)))))) False) (∃ j : StRn, ((Inv j) /\ ((m j < m s) /\
  ((bs l = bs l) /\ ((j.1 = s.1) /\ (((↑j.2 : Int) = IntKind.wrap IntKind.i64 ((↑s.2 : Int) + (1 : Int))) /\ True)))))))) False)) False) (∃ y : Nat, ((Eq (α := Option Nat)
  (secF l 0) (some y)) /\ (((↑y : Int) = s.1) /\ True)))) := by kernel_rfl
theorem Rn_vc (l : List UInt8) (v : Int) : mcall E0 mRn 60 23 [.string (bs l)] ⟨mkR (nums 0 []), 0⟩ (retIs 0 (.int .i64 v) []) =
  (br (strEq (bs l) (ByteArray.mk #[])) ((v = (-1 : Int)) /\ True) (∃ g : List UInt8, ((List.length g <= 9223372036854775807) /\ ((bs g = bs l) /\ (((0 : Int) = (0 : Int))
  /\ (((0 : Int) = (0 : Int)) /\ (∀ (side : Bool), (br (side) (∀ (y : Nat), ((secF g 0 = some y) → ((v = (↑y : Int)) /\ True))) (∀ (y : Nat), ((secF g 0 = none) → ((v = (-1
  : Int)) /\ True))))))))))) := by kernel_rfl
set_option maxRecDepth 10000 in
theorem Rn_piece : PieceOk E0 0 (23, pRn, specRn) := by
  refine piece_loop mixed (calls_envN _) (lok_envN _) lm_none (n := 60) (by kernel_rfl) (fun _ : List UInt8 => (⟨0, 0⟩ : StRn)) (fun l s => s.i ≤ l.length ∧ (0 ≤ s.n ∧ s.n ≤ 2147483647) ∧ secF l 0 = secF (l.drop s.i) s.n.toNat) (fun l s => l.length - s.i) (sl := slRn) (rl := fun _ _ => []) (fun l hg => ⟨Nat.zero_le _, by simp, rfl⟩) (fun l s hg hi => ?_)
  refine (Rn_round l s _ _).mpr ?_
  obtain ⟨z, i⟩ := s
  obtain ⟨h1, h2, h3⟩ := hi
  have hm : maxLen = 9223372036854775807 := by unfold maxLen; rfl
  simp only at h1 h2 h3
  obtain ⟨n, rfl⟩ : ∃ n : Nat, z = n := ⟨z.toNat, by omega⟩
  rw [toNat_cast] at h3
  simp only [ofNat_eq, toNat_cast, Nat.zero_add, Nat.add_zero, Nat.mul_one, List.drop_zero, bCells_len, bCells_drop, bCells_take, bCells_app, bCells_one, bCells_plain, List.length_replicate, List.length_append, List.length_take, List.length_drop, List.take_length, and_true, true_and, and_self, decide_true, List.length_nil, List.length_cons, Nat.sub_zero, dB_mk, dB_ro, List.take_zero, bs_d, bs_nil]
  refine br_if (fun h => br_dec (by omega) ?_) (fun h => ?_)
  rotate_left
  · have hz : l.drop i = [] := List.drop_eq_nil_of_le (by omega)
    rw [hz, secF] at h3
    exact ⟨n, h3, rfl⟩
  have hi : i < l.length := by omega
  have hd := List.drop_eq_getElem_cons hi
  rw [hd, secF] at h3
  have w := i64_succ (show i < 9223372036854775807 by omega)
  have hc := l[i].toNat_lt
  simp only [byteAt_bs hi, w]
  refine br_if (fun k1 => ⟨0, by rw [h3, if_neg (by omega)]⟩) (fun k1 => br_dec (by omega) (br_if (fun k2 => ⟨0, by rw [h3, if_neg (by omega)]⟩) (fun k2 => ?_)))
  generalize hK : (2147483647 : Int) = K
  by_cases k3 : (n : Int) < K
  rotate_left
  · rw [if_pos (by omega)] at h3
    rw [show min (n * 10 + (l[i].toNat - 48)) 2147483647 = n by omega] at h3
    refine br_nb (decide_eq_false k3) ?_
    exact ⟨⟨(n : Int), i + 1⟩, ⟨by simp only; omega, by simp only; omega, by simp only; rw [toNat_cast]; exact h3⟩, by simp only; omega, rfl, rfl⟩
  · refine br_b (decide_eq_true k3) (br_dec (by omega) ?_)
    rw [if_pos (by omega)] at h3
    have e1 : IntKind.i64.wrap ((n : Int) * 10) = ((n * 10 : Nat) : Int) := by rw [wr64_id (by unfold I64; omega)]; omega
    have e2 : IntKind.i64.wrap (IntKind.u8.wrap ((l[i].toNat : Int) - 48)) = ((l[i].toNat - 48 : Nat) : Int) := by rw [wru8, wr64_id (by unfold I64; omega)]; omega
    have e3 : IntKind.i64.wrap (((n * 10 : Nat) : Int) + ((l[i].toNat - 48 : Nat) : Int)) = ((n * 10 + (l[i].toNat - 48) : Nat) : Int) := by rw [wr64_id (by unfold I64; omega)]; omega
    simp only [e1, e2, e3]
    refine ⟨⟨((min (n * 10 + (l[i].toNat - 48)) 2147483647 : Nat) : Int), i + 1⟩, ⟨by simp only; omega, by simp only; omega, by simp only; rw [toNat_cast]; exact h3⟩, by simp only; omega, ?_, rfl⟩
    simp only
    split <;> omega
theorem Rn_con (l : List UInt8) (hl : l.length ≤ maxLen) : Con Try.prog 23 [.string (bs l)] [] (.int .i64 (secL l)) [] := by
  refine con_vc (E := E0) mixed (calls_envN _) (lok_envN _) (M := mRn) (lm_one Rn_piece) (Rn_vc l _) ?_
  simp only [ofNat_eq, toNat_cast, Nat.zero_add, Nat.add_zero, Nat.mul_one, List.drop_zero, bCells_len, bCells_drop, bCells_take, bCells_app, bCells_one, bCells_plain, List.length_replicate, List.length_append, List.length_take, List.length_drop, List.take_length, and_true, true_and, and_self, decide_true, List.length_nil, List.length_cons, Nat.sub_zero, dB_mk, dB_ro, List.take_zero, bs_d, bs_nil, strEq_bs]
  refine br_if (fun h => ?_) (fun h => ⟨l, by simpa [maxLen] using hl, rfl, br_side (fun n hn => ?_) (fun _ hn => ?_)⟩)
  · unfold secL; rw [if_pos h]
  · unfold secL; rw [if_neg h, hn]; rfl
  · unfold secL; rw [if_neg h, hn]; rfl
end Go.Proofs.Ytajfdcijpchjdaa.tk
