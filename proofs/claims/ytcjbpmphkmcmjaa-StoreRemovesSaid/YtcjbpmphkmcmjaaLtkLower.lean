/- A text in small letters. -/
import Derived.Test.YtcjbpmphkmcmjaaSz9
import Derived.Test.YtcjbpmphkmcmjaaRows
import Derived.Test.YtcjbpmphkmcmjaaLk9
set_option maxRecDepth 20000
set_option linter.unusedSimpArgs false
set_option linter.unusedVariables false
namespace Go.Proofs.Ytcjbpmphkmcmjaa.tk
open Go Go.Ev Go.Sy Go.RowKit Go.Proofs.Ytcjbpmphkmcmjaa.gl
def pLow : List Nat := [0, 1, 0, 1, 1]
def slLow (l : List UInt8) (i : Nat) : List (Nat × Value) := [(3, slc 0 l.length), (8, slc 0 l.length), (9, .int .i64 (l.length : Nat)), (10, .int .i64 (i : Nat))]
def rlLow (l : List UInt8) (i : Nat) : List (Nat × Row) := [(0, bOwn (lowerL (l.take i) ++ l.drop i))]
def wsLow (l : List UInt8) : List (Gate Unit) := [⟨.exit 0, fun _ => True, fun _ => [(3, slc 0 l.length)], fun _ => [(0, bOwn (lowerL l))], 1⟩]
def specLow : Sy.Spec := specOf 0 1 30 (fun l : List UInt8 => l.length ≤ maxLen) (fun l => slLow l 0) (fun l => rlLow l 0) wsLow
def mLow := mOf [(61, pLow, specLow)]
theorem Low_round (l : List UInt8) (i : Nat) (Inv : Nat → Prop) (m : Nat → Nat) : mev E0 noM 60 61 (0 :: pLow) false (codeOf Try.prog 61 (0 :: pLow)) ⟨mkOv (slLow l i), 30, []⟩ none ⟨mkR (rlLow l i), 1⟩ (roundK 0 1 30 Inv m (slLow l) (rlLow l) (wsLow l) i) =
  let z1 := (bCells (lowerL (List.take i l) ++ List.drop i l)); let z2 := ((↑(List.length l) : Int) = (↑(List.length l) : Int)); let z3 := (decide ((0 : Int) <= (↑i : Int)
  /\ (↑i : Int) < (↑(List.length l) : Int))); (br (decide ((↑i : Int) < (↑(List.length l) : Int))) (br z3 ((Eq (α := Option Value) (z1[0 + Int.toNat (↑i : Int) * 1]?) (some
  (Value.int IntKind.u8 (cellI z1 (0 + Int.toNat (↑i : Int) * 1))))) /\ (br (decide (cellI z1 (0 + Int.toNat (↑i : Int) * 1) ≥ (65 : Int))) (br (decide (cellI z1 (0 +
  Int.toNat (↑i : Int) * 1) <= (90 : Int))) (br z3 (br (decide (0 + Int.toNat (↑i : Int) * 1 + 1 <= List.length z1)) (∃ j : Nat, let w1 := (bCells (lowerL (List.take j l) ++
  List.drop j l)); ((Inv j) /\ ((m j < m i) /\ ((0 = 0) /\ ((List.length l = List.length l) /\ ((0 = 0) /\ ((List.length l = List.length l) /\ (z2 /\ (((↑j : Int) =
  IntKind.wrap IntKind.i64 ((↑i : Int) + (1 : Int))) /\ ((Eq (α := List Value) w1 (ovr z1 (0 + Int.toNat (↑i : Int) * 1) [Value.int IntKind.u8 (IntKind.wrap IntKind.u8
  (IntKind.wrap IntKind.u8 (cellI z1 (0 + Int.toNat (↑i : Int) * 1) - (65 : Int)) + (97 : Int)))])) /\ ((Plain w1) /\ True))))))))))) False) False) (∃ j : Nat, ((Inv j) /\
  ((m j < m i) /\ ((0 = 0) /\ ((List.length l = List.length l) /\ ((0 = 0) /\ ((List.length l = List.length l) /\ (z2 /\ (((↑j : Int) = IntKind.wrap IntKind.i64 ((↑i : Int)
  + (1 : Int))) /\ ((Eq (α := List Value) (bCells (lowerL (List.take j l) ++ List.drop j l)) z1) /\ ((Plain (bCells (lowerL (List.take j l) ++ List.drop j l))) /\
  True)))))))))))) (∃ j : Nat, ((Inv j) /\ ((m j < m i) /\ ((0 = 0) /\ ((List.length l = List.length l) /\ ((0 = 0) /\ ((List.length l = List.length l) /\ (z2 /\ (((↑j :
  Int) = IntKind.wrap IntKind.i64 ((↑i : Int) + (1 : Int))) /\ ((Eq (α := List Value) (bCells (lowerL (List.take j l) ++ List.drop j l)) z1) /\ ((Plain (bCells (lowerL
  (List.take j l) ++ List.drop j l))) /\ True))))))))))))) False) (∃ y : Unit, ((True) /\ ((0 = 0) /\ ((List.length l = List.length l) /\ ((Eq (α := List Value) (bCells
  (lowerL l)) z1) /\ ((Plain (bCells (lowerL l))) /\ True))))))) := by kernel_rfl
theorem Low_vc0  : mcall E0 noM 60 61 [.string (bs [])] ⟨mkR (nums 0 []), 0⟩ (retIs 0 (.string (bs [])) []) =
  ((AllB (List.take 0 (List.drop 0 []))) /\ ((bs [] = ByteArray.mk (List.toArray (List.map bOf (List.take 0 (List.drop 0 []))))) /\ True)) := by kernel_rfl
theorem Low_vc (l : List UInt8) (v : List UInt8) : mcall E0 mLow 60 61 [.string (bs l)] ⟨mkR (nums 0 []), 0⟩ (retIs 0 (.string (bs v)) []) =
  (br (decide (0 < List.length (Array.toList (ByteArray.data (bs l))))) (∃ g : List UInt8, ((List.length g <= 9223372036854775807) /\ ((0 = 0) /\ ((List.length g =
  List.length (Array.toList (ByteArray.data (bs l)))) /\ ((0 = 0) /\ ((List.length g = List.length (Array.toList (ByteArray.data (bs l)))) /\ (((↑(List.length g) : Int) =
  Int.ofNat (List.length (Array.toList (ByteArray.data (bs l))))) /\ (((0 : Int) = (0 : Int)) /\ ((Eq (α := List Value) (bCells ([] ++ List.drop 0 g)) (List.map (fun b ↦
  Value.int IntKind.u8 (↑(UInt8.toNat b) : Int)) (Array.toList (ByteArray.data (bs l))))) /\ ((Plain (bCells ([] ++ List.drop 0 g))) /\ (∀ (y : Unit), ((True) → (br (decide
  (0 + List.length g <= List.length (bCells (lowerL g)))) ((AllB (List.take (List.length g) (List.drop 0 (bCells (lowerL g))))) /\ ((bs v = ByteArray.mk (Array.mk (List.map
  bOf (List.take (List.length g) (List.drop 0 (bCells (lowerL g))))))) /\ True)) False))))))))))))) (∃ g : List UInt8, ((List.length g <= 9223372036854775807) /\ ((0 = 0) /\
  ((List.length g = 0) /\ ((0 = 0) /\ ((List.length g = 0) /\ (((↑(List.length g) : Int) = (0 : Int)) /\ (((0 : Int) = (0 : Int)) /\ False))))))))) := by kernel_rfl
theorem Low_piece : PieceOk E0 0 (61, pLow, specLow) := by
  refine piece_loop mixed (calls_envN _) (lok_envN _) lm_none (n := 60) (by kernel_rfl) (fun _ : List UInt8 => (0 : Nat)) (fun l i => i ≤ l.length) (fun l i => l.length - i) (sl := slLow) (rl := rlLow) (fun l hg => Nat.zero_le _) (fun l i hg hi => ?_)
  refine (Low_round l i _ _).mpr ?_
  have hm : maxLen = 9223372036854775807 := by unfold maxLen; rfl
  have hlow : ∀ n, (lowerL (l.take n) ++ l.drop n).length = l.length := by intro n; simp [lowerL]; omega
  simp only [ofNat_eq, toNat_cast, Nat.zero_add, Nat.add_zero, Nat.mul_one, List.drop_zero, bCells_len, bCells_drop, bCells_take, bCells_app, bCells_one, bCells_plain, List.length_replicate, List.length_append, List.length_take, List.length_drop, List.take_length, and_true, true_and, and_self, decide_true, List.length_nil, List.length_cons, Nat.sub_zero, dB_mk, dB_ro, List.take_zero, hlow, cells_int, List.length_singleton]
  refine br_if (fun h => ?_) (fun h => ⟨(), ?_⟩)
  · have hi : i < l.length := by omega
    have hk : i < (lowerL (l.take i) ++ l.drop i).length := by rw [hlow]; exact hi
    have e : (lowerL (l.take i) ++ l.drop i).getD i 0 = l[i] := by
      have : (lowerL (l.take i)).length = i := by simp [lowerL]; omega
      rw [List.getD_eq_getElem?_getD, List.getElem?_append_right (by omega), this]; simp [hi]
    have nxt : lowerL (l.take (i + 1)) ++ l.drop (i + 1) = (lowerL (l.take i) ++ l.drop i).set i (lowC l[i]) := by
      have h3 : (lowerL (l.take i)).length = i := by simp [lowerL]; omega
      rw [List.set_append_right _ _ (by omega), h3, List.drop_eq_getElem_cons hi, Nat.sub_self, List.set_cons_zero, List.take_succ_eq_append_getElem hi]
      unfold lowerL; rw [List.map_append, List.append_assoc]; rfl
    rw [bCells_get hk, bCells_cell hk, e]
    have w := i64_succ (show i < 9223372036854775807 by omega)
    have hc := l[i].toNat_lt
    simp only [w]
    have same : lowC l[i] = l[i] → bCells (lowerL (l.take (i + 1)) ++ l.drop (i + 1)) = bCells (lowerL (l.take i) ++ l.drop i) := fun h => by
      rw [nxt, h, ← e]
      exact congrArg bCells (set_getD _ _ hk)
    have other : ∀ k : Int, lowC l[i] = UInt8.ofNat k.toNat → 0 ≤ k → k < 256 → bCells (lowerL (l.take (i + 1)) ++ l.drop (i + 1)) = ovr (bCells (lowerL (l.take i) ++ l.drop i)) i [.int .u8 k] := fun k h k0 k1 => by
      have : [Value.int .u8 k] = bCells [UInt8.ofNat k.toNat] := by
        show _ = [bVal (UInt8.ofNat k.toNat)]
        rw [← bVal_nat (by omega), Int.toNat_of_nonneg k0]
      rw [nxt, h, this, bCells_ovr]
      rw [show [UInt8.ofNat k.toNat].length = 1 from rfl, ovr_set hk]
    have fin : ∀ P : Nat → Prop, (i + 1 ≤ l.length ∧ l.length - (i + 1) < l.length - i ∧ ((i + 1 : Nat) : Int) = ((i + 1 : Nat) : Int) ∧ P (i + 1)) → ∃ j, j ≤ l.length ∧ l.length - j < l.length - i ∧ (j : Int) = ((i + 1 : Nat) : Int) ∧ P j := fun P h => ⟨i + 1, h⟩
    refine br_dec (by omega) ⟨trivial, br_if (fun h1 => br_if (fun h2 => br_dec (by omega) (br_dec (by omega) ⟨i + 1, by omega, by omega, rfl, ?_⟩)) (fun h2 => ⟨i + 1, by omega, by omega, rfl, ?_⟩)) (fun h1 => ⟨i + 1, by omega, by omega, rfl, ?_⟩)⟩
    · have e1 : IntKind.u8.wrap (IntKind.u8.wrap (((l[i].toNat : Nat) : Int) - 65) + 97) = (l[i].toNat : Int) + 32 := by rw [wru8, wru8]; omega
      rw [e1]
      refine other _ ?_ (by omega) (by omega)
      unfold lowC; rw [if_pos (by omega)]; exact congrArg UInt8.ofNat (by omega)
    · refine same ?_
      unfold lowC; rw [if_neg (by omega)]
    · refine same ?_
      unfold lowC; rw [if_neg (by omega)]
  · rw [show i = l.length by omega]; simp
theorem Low_con (l : List UInt8) (hl : l.length ≤ maxLen) : Con Try.prog 61 [.string (bs l)] [] (.string (bs (lowerL l))) [] := by
  by_cases h0 : l = []
  · subst h0
    exact con_vc (E := E0) mixed (calls_envN _) (lok_envN _) (M := noM) lm_none Low_vc0 ⟨fun v hv => by simp at hv, rfl, trivial⟩
  · refine con_vc (E := E0) mixed (calls_envN _) (lok_envN _) (M := mLow) (lm_one Low_piece) (Low_vc l _) ?_
    have h1 : 0 < l.length := List.length_pos_iff.2 h0
    have hlen : (lowerL l).length = l.length := by simp [lowerL]
    have ht : (bCells (lowerL l)).take l.length = bCells (lowerL l) := List.take_of_length_le (by rw [bCells_len, hlen]; omega)
    have hb : ∀ l : List UInt8, (⟨(List.map bOf (bCells l)).toArray⟩ : ByteArray) = bs l := fun l => by rw [bCells_bOf]; rfl
    have hv : l.map (fun b => Value.int .u8 (b.toNat : Int)) = bCells l := rfl
    have hz : lowerL (l.take 0) ++ l.drop 0 = l := rfl
    simp only [ofNat_eq, toNat_cast, Nat.zero_add, Nat.add_zero, Nat.mul_one, List.drop_zero, bCells_len, bCells_drop, bCells_take, bCells_app, bCells_one, bCells_plain, List.length_replicate, List.length_append, List.length_take, List.length_drop, List.take_length, and_true, true_and, and_self, decide_true, List.length_nil, List.length_cons, Nat.sub_zero, dB_mk, dB_ro, List.take_zero, bs_d, hlen, ht, hb, hv, hz]
    refine br_dec h1 ⟨l, by unfold maxLen at hl; omega, rfl, rfl, rfl, rfl, fun _ _ => br_dec (by omega) ⟨bCells_all _, ?_⟩⟩
    rw [List.take_of_length_le (by omega)]
end Go.Proofs.Ytcjbpmphkmcmjaa.tk
