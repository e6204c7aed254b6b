/- The law of Get, of a wider prefix, of two numbers apart. -/
import Derived.Test.YthhahjkekgbhhaaSz9
import Derived.Test.YthhahjkekgbhhaaRows
import Derived.Test.YthhahjkekgbhhaaLs3tab
set_option linter.unusedSimpArgs false
set_option linter.unusedVariables false
namespace Go.Proofs.Ythhahjkekgbhhaa.s3
open Go Go.Ev Go.Sy Go.RowKit Go.Proofs.Ythhahjkekgbhhaa.bk
theorem gets_vc (b : List UInt8) (i n : Int) : mcall EG noM 60 5 [slc 0 b.length, .int .i64 i, .int .i64 n] ⟨mkR (nums 0 [bRo b]), 1⟩ (retIs 1 (.bool true) [bRo b]) =
  ((((((0 : Nat) + List.length b * (1 : Nat) ≤ List.length (bCells b) ∧ Plain (List.take (List.length b * (1 : Nat)) (List.drop (0 : Nat) (bCells b)))) ∧ (True ∧ True)) ∧ ((Plain (bCells (pad80 (dB (Row.mk (List.take (List.length b * (1 : Nat)) (List.drop (0 : Nat) (bCells b))) true (Ob.cells true))) (u8i (42 : Int)))) ∧ True) ∧ (IsB (Row.mk (List.take (List.length b * (1 : Nat)) (List.drop (0 : Nat) (bCells b))) true (Ob.cells true)) (List.length b) ∧ (IsU8 (42 : Int) ∧ List.length b ≤ (16777136 : Nat)))))) ∧
  (br (decide ((0 : Int) ≤ (↑(0 : Nat) : Int) ∧ (0 : Int) ≤ Int.ofNat (List.length b) ∧ Int.ofNat (List.length b) ≤ (↑(List.length b + (80 : Nat)) : Int)))
   ((((((0 : Nat) + (Int.toNat (Int.ofNat (List.length b)) - (0 : Nat)) * (1 : Nat) ≤ List.length (bCells (pad80 (dB (Row.mk (List.take (List.length b * (1 : Nat)) (List.drop (0 : Nat) (bCells b))) true (Ob.cells true))) (u8i (42 : Int)))) ∧ Plain (List.take ((Int.toNat (Int.ofNat (List.length b)) - (0 : Nat)) * (1 : Nat)) (List.drop (0 : Nat) (bCells (pad80 (dB (Row.mk (List.take (List.length b * (1 : Nat)) (List.drop (0 : Nat) (bCells b))) true (Ob.cells true))) (u8i (42 : Int))))))) ∧ (True ∧ (True ∧ True))) ∧ (True ∧ (IsB (Row.mk (List.take ((Int.toNat (Int.ofNat (List.length b)) - (0 : Nat)) * (1 : Nat)) (List.drop (0 : Nat) (bCells (pad80 (dB (Row.mk (List.take (List.length b * (1 : Nat)) (List.drop (0 : Nat) (bCells b))) true (Ob.cells true))) (u8i (42 : Int)))))) true (Ob.cells true)) (Int.toNat (Int.ofNat (List.length b)) - (0 : Nat)) ∧ Int.toNat (Int.ofNat (List.length b)) - (0 : Nat) ≤ (9223372036854775807 : Nat))))) ∧
   ((((((0 : Nat) + List.length b * (1 : Nat) ≤ List.length (bCells b) ∧ Plain (List.take (List.length b * (1 : Nat)) (List.drop (0 : Nat) (bCells b)))) ∧ (True ∧ (True ∧ True))) ∧ (True ∧ (IsB (Row.mk (List.take (List.length b * (1 : Nat)) (List.drop (0 : Nat) (bCells b))) true (Ob.cells true)) (List.length b) ∧ List.length b ≤ (9223372036854775807 : Nat))))) ∧
   (br ((↑(getOut (dB (Row.mk (List.take ((Int.toNat (Int.ofNat (List.length b)) - Int.toNat (↑(0 : Nat) : Int)) * TypeInfo.size (Tables.types (Program.toTables (Env.P EG)))[(5 : Nat)]) (List.drop ((0 : Nat) + (0 : Nat) + Int.toNat (↑(0 : Nat) : Int) * TypeInfo.size (Tables.types (Program.toTables (Env.P EG)))[(5 : Nat)]) (bCells (pad80 (dB (Row.mk (List.take (List.length b * (1 : Nat)) (List.drop (0 : Nat) (bCells b))) true (Ob.cells true))) (u8i (42 : Int)))))) true (Ob.cells true))) i n).1 : Int) == (↑(getOut (dB (Row.mk (List.take (List.length b * (1 : Nat)) (List.drop (0 : Nat) (bCells b))) true (Ob.cells true))) i n).1 : Int))
    (br ((↑(Prod.snd (getOut (dB (Row.mk (List.take ((Int.toNat (Int.ofNat (List.length b)) - Int.toNat (↑(0 : Nat) : Int)) * TypeInfo.size (Tables.types (Program.toTables (Env.P EG)))[(5 : Nat)]) (List.drop ((0 : Nat) + (0 : Nat) + Int.toNat (↑(0 : Nat) : Int) * TypeInfo.size (Tables.types (Program.toTables (Env.P EG)))[(5 : Nat)]) (bCells (pad80 (dB (Row.mk (List.take (List.length b * (1 : Nat)) (List.drop (0 : Nat) (bCells b))) true (Ob.cells true))) (u8i (42 : Int)))))) true (Ob.cells true))) i n)).1 : Int) == (↑(Prod.snd (getOut (dB (Row.mk (List.take (List.length b * (1 : Nat)) (List.drop (0 : Nat) (bCells b))) true (Ob.cells true))) i n)).1 : Int))
     (br ((↑(Prod.snd (getOut (dB (Row.mk (List.take ((Int.toNat (Int.ofNat (List.length b)) - Int.toNat (↑(0 : Nat) : Int)) * TypeInfo.size (Tables.types (Program.toTables (Env.P EG)))[(5 : Nat)]) (List.drop ((0 : Nat) + (0 : Nat) + Int.toNat (↑(0 : Nat) : Int) * TypeInfo.size (Tables.types (Program.toTables (Env.P EG)))[(5 : Nat)]) (bCells (pad80 (dB (Row.mk (List.take (List.length b * (1 : Nat)) (List.drop (0 : Nat) (bCells b))) true (Ob.cells true))) (u8i (42 : Int)))))) true (Ob.cells true))) i n)).2 : Int) == (↑(Prod.snd (getOut (dB (Row.mk (List.take (List.length b * (1 : Nat)) (List.drop (0 : Nat) (bCells b))) true (Ob.cells true))) i n)).2 : Int))
      ((((((0 : Nat) + (List.length b + (80 : Nat)) * (1 : Nat) ≤ List.length (bCells (pad80 (dB (Row.mk (List.take (List.length b * (1 : Nat)) (List.drop (0 : Nat) (bCells b))) true (Ob.cells true))) (u8i (42 : Int)))) ∧ Plain (List.take ((List.length b + (80 : Nat)) * (1 : Nat)) (List.drop (0 : Nat) (bCells (pad80 (dB (Row.mk (List.take (List.length b * (1 : Nat)) (List.drop (0 : Nat) (bCells b))) true (Ob.cells true))) (u8i (42 : Int))))))) ∧ (((0 : Nat) + List.length b * (1 : Nat) ≤ List.length (bCells b) ∧ Plain (List.take (List.length b * (1 : Nat)) (List.drop (0 : Nat) (bCells b)))) ∧ (True ∧ True))) ∧ (True ∧ (IsB (Row.mk (List.take ((List.length b + (80 : Nat)) * (1 : Nat)) (List.drop (0 : Nat) (bCells (pad80 (dB (Row.mk (List.take (List.length b * (1 : Nat)) (List.drop (0 : Nat) (bCells b))) true (Ob.cells true))) (u8i (42 : Int)))))) true (Ob.cells true)) (List.length b + (80 : Nat)) ∧ (IsB (Row.mk (List.take (List.length b * (1 : Nat)) (List.drop (0 : Nat) (bCells b))) true (Ob.cells true)) (List.length b) ∧ (IsU8 (42 : Int) ∧ (List.length b + (80 : Nat) ≤ (9223372036854775807 : Nat) ∧ List.length b ≤ (9223372036854775000 : Nat)))))))) ∧
      (br (decide (dB (Row.mk (List.take ((List.length b + (80 : Nat)) * (1 : Nat)) (List.drop (0 : Nat) (bCells (pad80 (dB (Row.mk (List.take (List.length b * (1 : Nat)) (List.drop (0 : Nat) (bCells b))) true (Ob.cells true))) (u8i (42 : Int)))))) true (Ob.cells true)) = pad80 (dB (Row.mk (List.take (List.length b * (1 : Nat)) (List.drop (0 : Nat) (bCells b))) true (Ob.cells true))) (u8i (42 : Int))))
       (((True ∧ (True ∧ True))) ∧
       ((true = true) ∧
       ((Eq (α := List Value) (bCells b) (bCells b)) ∧
       ((Plain (bCells b)) ∧
       True))))
       ((true = false) ∧
       ((Eq (α := List Value) (bCells b) (bCells b)) ∧
       ((Plain (bCells b)) ∧
       True)))))
      ((true = false) ∧
      ((Eq (α := List Value) (bCells b) (bCells b)) ∧
      ((Plain (bCells b)) ∧
      True))))
     ((true = false) ∧
     ((Eq (α := List Value) (bCells b) (bCells b)) ∧
     ((Plain (bCells b)) ∧
     True))))
    ((true = false) ∧
    ((Eq (α := List Value) (bCells b) (bCells b)) ∧
    ((Plain (bCells b)) ∧
    True))))))
   False)) := by kernel_rfl
theorem gets_law (b : List UInt8) (i n : Int) (hb : b.length ≤ 1048576) (_ : I64 i) (_ : I64 n) : Con Try.prog 5 [slc 0 b.length, .int .i64 i, .int .i64 n] [bRo b] (.bool true) [bRo b] := by
  refine con_vc (E := EG) mixed (calls_envC cG_ok) (lok_envC _ _ _) (M := noM) lm_none (gets_vc b i n) ?_
  have e1 : List.take b.length (pad80 b (u8i 42)) = b := by unfold pad80; rw [List.take_left]
  have e2 : List.take (b.length + 80) (pad80 b (u8i 42)) = pad80 b (u8i 42) := List.take_of_length_le (by rw [pad_len]; omega)
  have hm : maxLen = 9223372036854775807 := by unfold maxLen; rfl
  simp only [ofNat_eq, toNat_cast, Nat.zero_add, Nat.add_zero, Nat.mul_one, List.drop_zero, bCells_len, bCells_drop, bCells_take, bCells_app, bCells_one, bCells_plain, List.length_replicate, List.length_append, List.length_take, List.length_drop, List.take_length, and_true, true_and, and_self, decide_true, List.length_nil, List.length_cons, Nat.sub_zero, dB_mk, dB_ro, List.take_zero, pad_len, u8i_nat, isU8_nat, e1, e2]
  have hB2 : IsB { cells := bCells (pad80 b (u8i 42)), ro := true, ob := Ob.cells true } (b.length + 80) := isB_mk _ _ (pad_len _ _).symm
  have h41 : IsU8 42 := ⟨42, rfl⟩
  have hs : (EG.P.types[5]'(Nat.le_of_ble_eq_true (by kernel_rfl))).size = 1 := by kernel_rfl
  have e3 : List.take (b.length * (EG.P.types[5]'(Nat.le_of_ble_eq_true (by kernel_rfl))).size) (List.drop (0 * (EG.P.types[5]'(Nat.le_of_ble_eq_true (by kernel_rfl))).size) (pad80 b (u8i 42))) = b := by rw [hs, Nat.mul_one, Nat.zero_mul, List.drop_zero, e1]
  rw [e3]
  have hB := @isB_own b
  refine ⟨⟨by omega, hB, h41, by omega⟩, br_dec ⟨by omega, by omega, by omega⟩ ⟨⟨by omega, hB, by omega⟩, ⟨by omega, hB, by omega⟩, br_b (by simp) (br_b (by simp) (br_b (by simp) ⟨⟨⟨by omega, by omega⟩, hB2, hB, h41, by omega, by omega⟩, br_b rfl trivial⟩))⟩⟩
end Go.Proofs.Ythhahjkekgbhhaa.s3
