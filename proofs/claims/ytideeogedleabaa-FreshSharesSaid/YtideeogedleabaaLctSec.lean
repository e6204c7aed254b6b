/- Seconds of a text. -/
import Derived.Test.YtideeogedleabaaSz9
import Derived.Test.YtideeogedleabaaRows
import Derived.Test.YtideeogedleabaaLk9
set_option maxRecDepth 20000
set_option linter.unusedSimpArgs false
set_option linter.unusedVariables false
namespace Go.Proofs.Ytideeogedleabaa.tk
open Go Go.Ev Go.Sy Go.RowKit Go.Proofs.Ytideeogedleabaa.gl
def pSe : List Nat := [0, 1, 0, 1, 1, 1]
structure StSe where
  n : Nat
  i : Nat
def slSe (l : List UInt8) (s : StSe) : List (Nat × Value) := [(0, .string (bs l)), (3, .int .i64 (s.n : Nat)), (8, .int .i64 (l.length : Nat)), (9, .int .i64 (s.i : Nat))]
def wsSe (l : List UInt8) : List (Gate Nat) := [⟨.exit 0, fun n => secF l 0 = some n, fun n => [(3, .int .i64 (n : Nat))], fun _ => [], 0⟩, ⟨.ret, fun _ => secF l 0 = none, fun _ => [(2, .int .i64 (-1))], fun _ => [], 0⟩]
def specSe : Sy.Spec := specOf 0 0 33 (fun l : List UInt8 => l.length ≤ maxLen) (fun l => slSe l ⟨0, 0⟩) (fun _ => []) wsSe
def mSe := mOf [(49, pSe, specSe)]
theorem Se_round (l : List UInt8) (s : StSe) (Inv : StSe → Prop) (m : StSe → Nat) : mev E0 noM 60 49 (0 :: pSe) false (codeOf Try.prog 49 (0 :: pSe)) ⟨mkOv (slSe l s), 33, []⟩ none ⟨mkR [], 0⟩ (roundK 0 0 33 Inv m (slSe l) (fun _ => []) (wsSe l) s) =
  (br (decide ((↑s.2 : Int) < (↑(List.length l) : Int))) (br (decide ((0 : Int) <= (↑s.2 : Int) /\ (↑s.2 : Int) < (↑(List.length (Array.toList (ByteArray.data (bs l)))) :
  Int))) (br (decide (byteAt (bs l) (Int.toNat (↑s.2 : Int)) < (48 : Int))) (∃ y : Nat, ((Eq (α := Option Nat) (secF l 0) (none)) /\ (((-1 : Int) = (-1 : Int)) /\ True)))
  (br (decide ((0 : Int) <= (↑s.2 : Int) /\ (↑s.2 : Int) < (↑(List.length (Array.toList (ByteArray.data (bs l)))) : Int))) (br (decide (byteAt (bs l) (Int.toNat (↑s.2 :
  Int)) > (57 : Int))) (∃ y : Nat, ((Eq (α := Option Nat) (secF l 0) (none)) /\ (((-1 : Int) = (-1 : Int)) /\ True))) (br (decide ((0 : Int) <= (↑s.2 : Int) /\ (↑s.2 : Int)
  < (↑(List.length (Array.toList (ByteArray.data (bs l)))) : Int))) (∃ j : StSe, ((Inv j) /\ ((m j < m s) /\ ((bs l = bs l) /\ (((↑j.1 : Int) = if (2147483647 : Int) <
  IntKind.wrap IntKind.i64 (IntKind.wrap IntKind.i64 ((↑s.1 : Int) * (10 : Int)) + IntKind.wrap IntKind.i64 (IntKind.wrap IntKind.u8 (byteAt (bs l) (Int.toNat (↑s.2 : Int))
  - (48 : Int)))) then (2147483647 : Int) else IntKind.wrap IntKind.i64 (IntKind.wrap IntKind.i64 ((↑s.1 : Int) * (10 : Int)) + IntKind.wrap IntKind.i64 (IntKind.wrap
  IntKind.u8 (byteAt (bs l) (Int.toNat (↑s.2 : Int)) - (48 : Int))))) /\ (((↑(List.length l) : Int) = (↑(List.length l) : Int)) /\ (((↑j.2 : Int) = IntKind.wrap IntKind.i64
  ((↑s.2 : Int) + (1 : Int))) /\ True))))))) False)) False)) False) (∃ y : Nat, ((Eq (α := Option Nat) (secF l 0) (some y)) /\ (((↑y : Int) = (↑s.1 : Int)) /\ True)))) := by kernel_rfl
theorem Se_vc (l : List UInt8) (v : Int) : mcall E0 mSe 60 49 [.string (bs l)] ⟨mkR (nums 0 []), 0⟩ (retIs 0 (.int .i64 v) []) =
  (br (strEq (bs l) (ByteArray.mk #[])) ((v = (-1 : Int)) /\ True) (∃ g : List UInt8, ((List.length g <= 9223372036854775807) /\ ((bs g = bs l) /\ (((0 : Int) = (0 : Int))
  /\ (((↑(List.length g) : Int) = Int.ofNat (List.length (Array.toList (ByteArray.data (bs l))))) /\ (((0 : Int) = (0 : Int)) /\ (∀ (side : Bool), (br (side) (∀ (y : Nat),
  ((secF g 0 = some y) → ((v = (↑y : Int)) /\ True))) (∀ (y : Nat), ((secF g 0 = none) → ((v = (-1 : Int)) /\ True)))))))))))) := by kernel_rfl
theorem Se_piece : PieceOk E0 0 (49, pSe, specSe) := by
  refine piece_loop mixed (calls_envN _) (lok_envN _) lm_none (n := 60) (by kernel_rfl) (fun _ : List UInt8 => (⟨0, 0⟩ : StSe)) (fun l s => s.i ≤ l.length ∧ s.n ≤ 2147483647 ∧ secF l 0 = secF (l.drop s.i) s.n) (fun l s => l.length - s.i) (sl := slSe) (rl := fun _ _ => []) (fun l hg => ⟨Nat.zero_le _, by simp, rfl⟩) (fun l s hg hi => ?_)
  refine (Se_round l s _ _).mpr ?_
  obtain ⟨n, i⟩ := s
  obtain ⟨h1, h2, h3⟩ := hi
  have hm : maxLen = 9223372036854775807 := by unfold maxLen; rfl
  simp only at h1 h2 h3
  simp only [ofNat_eq, toNat_cast, Nat.zero_add, Nat.add_zero, Nat.mul_one, List.drop_zero, bCells_len, bCells_drop, bCells_take, bCells_app, bCells_one, bCells_plain, List.length_replicate, List.length_append, List.length_take, List.length_drop, List.take_length, and_true, true_and, and_self, decide_true, List.length_nil, List.length_cons, Nat.sub_zero, dB_mk, dB_ro, List.take_zero, bs_d, bs_nil]
  refine br_if (fun h => br_dec (by omega) ?_) (fun h => ?_)
  rotate_left
  · have hz : l.drop i = [] := List.drop_eq_nil_of_le (by omega)
    rw [hz, secF] at h3
    exact ⟨n, h3, rfl⟩
  have hi : i < l.length := by omega
  have hd := List.drop_eq_getElem_cons hi
  rw [hd, secF] at h3
  have w := i64_succ (show i < 9223372036854775807 by omega)
  have hc := l[i].toNat_lt
  simp only [byteAt_bs hi, w]
  refine br_if (fun k1 => ⟨0, by rw [h3, if_neg (by omega)]⟩) (fun k1 => br_dec (by omega) (br_if (fun k2 => ⟨0, by rw [h3, if_neg (by omega)]⟩) (fun k2 => br_dec (by omega) ?_)))
  rw [if_pos (by omega)] at h3
  have e1 : IntKind.i64.wrap ((n : Int) * 10) = ((n * 10 : Nat) : Int) := by rw [wr64_id (by unfold I64; omega)]; omega
  have e2 : IntKind.i64.wrap (IntKind.u8.wrap ((l[i].toNat : Int) - 48)) = ((l[i].toNat - 48 : Nat) : Int) := by rw [wru8, wr64_id (by unfold I64; omega)]; omega
  have e3 : IntKind.i64.wrap (((n * 10 : Nat) : Int) + ((l[i].toNat - 48 : Nat) : Int)) = ((n * 10 + (l[i].toNat - 48) : Nat) : Int) := by rw [wr64_id (by unfold I64; omega)]; omega
  simp only [e1, e2, e3]
  refine ⟨⟨min (n * 10 + (l[i].toNat - 48)) 2147483647, i + 1⟩, ⟨by simp only; omega, by simp only; omega, h3⟩, by simp only; omega, ?_, rfl⟩
  simp only
  split <;> omega
theorem Se_con (l : List UInt8) (hl : l.length ≤ maxLen) : Con Try.prog 49 [.string (bs l)] [] (.int .i64 (secL l)) [] := by
  refine con_vc (E := E0) mixed (calls_envN _) (lok_envN _) (M := mSe) (lm_one Se_piece) (Se_vc l _) ?_
  simp only [ofNat_eq, toNat_cast, Nat.zero_add, Nat.add_zero, Nat.mul_one, List.drop_zero, bCells_len, bCells_drop, bCells_take, bCells_app, bCells_one, bCells_plain, List.length_replicate, List.length_append, List.length_take, List.length_drop, List.take_length, and_true, true_and, and_self, decide_true, List.length_nil, List.length_cons, Nat.sub_zero, dB_mk, dB_ro, List.take_zero, bs_d, bs_nil, strEq_bs]
  refine br_if (fun h => ?_) (fun h => ⟨l, by simpa [maxLen] using hl, rfl, rfl, br_side (fun n hn => ?_) (fun _ hn => ?_)⟩)
  · unfold secL; rw [if_pos h]
  · unfold secL; rw [if_neg h, hn]; rfl
  · unfold secL; rw [if_neg h, hn]; rfl
end Go.Proofs.Ytideeogedleabaa.tk
