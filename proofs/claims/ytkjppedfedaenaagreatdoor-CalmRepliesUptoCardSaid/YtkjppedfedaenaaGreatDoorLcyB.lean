/- How a rule's reply comes about: the status's digits, and the rows. -/
import Derived.Test.YtkjppedfedaenaaGreatDoorSz9
import Derived.Test.YtkjppedfedaenaaGreatDoorRows
import Derived.Test.YtkjppedfedaenaaGreatDoorLcyA
import Derived.Test.YtkjppedfedaenaaGreatDoorLsnA
set_option maxRecDepth 20000
set_option linter.unusedSimpArgs false
set_option linter.unusedVariables false
namespace Go.Proofs.YtkjppedfedaenaaGreatDoor.cy
open Go Go.Ev Go.Sy Go.RowKit Go.Proofs.YtkjppedfedaenaaGreatDoor.gl Go.Proofs.YtkjppedfedaenaaGreatDoor.tk Go.Proofs.YtkjppedfedaenaaGreatDoor.sn
def digL (st : Int) : List UInt8 := [UInt8.ofNat (48 + (max st 0).toNat % 1000 / 100), UInt8.ofNat (48 + (max st 0).toNat % 1000 / 10 % 10), UInt8.ofNat (48 + (max st 0).toNat % 10)]
noncomputable def digZ : Int → ByteArray := sealV fun st => bs (digL st)
noncomputable def eDg : EntM := entC 32 fun a r => match a, r with
  | [.int .i64 st], [] => some (I64 st, .string (digZ st), [])
  | _, _ => none
noncomputable def eDr : EntM := entC 44 fun a r => match a, r with
  | [.int .i64 st], [] => some (I64 st, .string (digZ st), [])
  | _, _ => none
theorem Dg_vc (st : Int) (v : ByteArray) : mcall E0 noM 60 32 [.int .i64 st] ⟨mkR (nums 0 []), 0⟩ (retIs 0 (.string v) []) =
  ((v = ByteArray.mk (Array.mk [UInt8.ofNat (Int.toNat (IntKind.wrap IntKind.u8 (IntKind.wrap IntKind.i64 ((48 : Int) + IntKind.wrap IntKind.i64 (Int.tdiv (Int.tmod (if (0 :
  Int) > st then (0 : Int) else st) (1000 : Int)) (100 : Int)))))), UInt8.ofNat (Int.toNat (IntKind.wrap IntKind.u8 (IntKind.wrap IntKind.i64 ((48 : Int) + Int.tmod
  (IntKind.wrap IntKind.i64 (Int.tdiv (Int.tmod (if (0 : Int) > st then (0 : Int) else st) (1000 : Int)) (10 : Int))) (10 : Int))))), UInt8.ofNat (Int.toNat (IntKind.wrap
  IntKind.u8 (IntKind.wrap IntKind.i64 ((48 : Int) + Int.tmod (Int.tmod (if (0 : Int) > st then (0 : Int) else st) (1000 : Int)) (10 : Int)))))])) /\ True) := by kernel_rfl
theorem Dr_vc (st : Int) (v : ByteArray) : mcall E0 noM 60 44 [.int .i64 st] ⟨mkR (nums 0 []), 0⟩ (retIs 0 (.string v) []) =
  ((v = ByteArray.mk (Array.mk [UInt8.ofNat (Int.toNat (IntKind.wrap IntKind.u8 (IntKind.wrap IntKind.i64 ((48 : Int) + Int.tmod (IntKind.wrap IntKind.i64 (Int.tdiv (if (0 :
  Int) > st then (0 : Int) else st) (100 : Int))) (10 : Int))))), UInt8.ofNat (Int.toNat (IntKind.wrap IntKind.u8 (IntKind.wrap IntKind.i64 ((48 : Int) + Int.tmod
  (IntKind.wrap IntKind.i64 (Int.tdiv (if (0 : Int) > st then (0 : Int) else st) (10 : Int))) (10 : Int))))), UInt8.ofNat (Int.toNat (IntKind.wrap IntKind.u8 (IntKind.wrap
  IntKind.i64 ((48 : Int) + Int.tmod (if (0 : Int) > st then (0 : Int) else st) (10 : Int)))))])) /\ True) := by kernel_rfl
theorem dig_b {x : Int} {y : Nat} (h : x = (y : Int)) (hy : y ≤ 9) : UInt8.ofNat (IntKind.u8.wrap (IntKind.i64.wrap (48 + x))).toNat = UInt8.ofNat (48 + y) := by
  subst h
  have e1 : IntKind.i64.wrap (48 + (y : Int)) = ((48 + y : Nat) : Int) := by rw [wr64_id (by unfold I64; omega)]; omega
  rw [e1, wru8_nat (by omega)]
  rfl
theorem td {m : Nat} (k : Nat) : ((m : Int)).tdiv (k : Int) = ((m / k : Nat) : Int) := by rw [Int.tdiv_eq_ediv_of_nonneg (by omega)]; rfl
theorem tm {m : Nat} (k : Nat) : ((m : Int)).tmod (k : Int) = ((m % k : Nat) : Int) := by rw [Int.tmod_eq_emod_of_nonneg (by omega)]; rfl
theorem max_n (st : Int) (h : I64 st) : ∃ m : Nat, (if 0 > st then 0 else st) = (m : Int) ∧ (max st 0).toNat = m ∧ m < 9223372036854775808 := by
  unfold I64 at h
  by_cases h0 : 0 > st
  · exact ⟨0, by rw [if_pos h0]; rfl, by rw [Int.max_eq_right (by omega)]; rfl, by omega⟩
  · exact ⟨st.toNat, by rw [if_neg h0]; omega, by rw [Int.max_eq_left (by omega)], by omega⟩
theorem Dg_con (st : Int) (h : I64 st) : Con Tryz.prog 32 [.int .i64 st] [] (.string (bs (digL st))) [] := by
  refine con_vc (E := E0) mixed (calls_envN _) (lok_envN _) (M := noM) lm_none (Dg_vc st _) ?_
  simp only [ofNat_eq, toNat_cast, Nat.zero_add, Nat.add_zero, Nat.mul_one, List.drop_zero, bCells_len, bCells_drop, bCells_take, bCells_app, bCells_one, bCells_plain, List.length_replicate, List.length_append, List.length_take, List.length_drop, List.take_length, and_true, true_and, and_self, decide_true, List.length_nil, List.length_cons, Nat.sub_zero, dB_mk, dB_ro, List.take_zero]
  obtain ⟨m, h1, h2, h3⟩ := max_n st h
  unfold digL
  rw [h1, h2]
  have a1 : IntKind.i64.wrap (((m : Int).tmod 1000).tdiv 100) = ((m % 1000 / 100 : Nat) : Int) := by
    rw [show (1000 : Int) = ((1000 : Nat) : Int) from rfl, show (100 : Int) = ((100 : Nat) : Int) from rfl, tm, td, wr64_id (by unfold I64; omega)]
  have a2 : (IntKind.i64.wrap (((m : Int).tmod 1000).tdiv 10)).tmod 10 = ((m % 1000 / 10 % 10 : Nat) : Int) := by
    rw [show (1000 : Int) = ((1000 : Nat) : Int) from rfl, show (10 : Int) = ((10 : Nat) : Int) from rfl, tm, td, wr64_id (by unfold I64; omega), tm]
  have a3 : ((m : Int).tmod 1000).tmod 10 = ((m % 10 : Nat) : Int) := by
    rw [show (1000 : Int) = ((1000 : Nat) : Int) from rfl, show (10 : Int) = ((10 : Nat) : Int) from rfl, tm, tm]; omega
  rw [dig_b a1 (by omega), dig_b a2 (by omega), dig_b a3 (by omega)]
  rfl
theorem Dr_con (st : Int) (h : I64 st) : Con Tryz.prog 44 [.int .i64 st] [] (.string (bs (digL st))) [] := by
  refine con_vc (E := E0) mixed (calls_envN _) (lok_envN _) (M := noM) lm_none (Dr_vc st _) ?_
  simp only [ofNat_eq, toNat_cast, Nat.zero_add, Nat.add_zero, Nat.mul_one, List.drop_zero, bCells_len, bCells_drop, bCells_take, bCells_app, bCells_one, bCells_plain, List.length_replicate, List.length_append, List.length_take, List.length_drop, List.take_length, and_true, true_and, and_self, decide_true, List.length_nil, List.length_cons, Nat.sub_zero, dB_mk, dB_ro, List.take_zero]
  obtain ⟨m, h1, h2, h3⟩ := max_n st h
  unfold digL
  rw [h1, h2]
  have a1 : (IntKind.i64.wrap ((m : Int).tdiv 100)).tmod 10 = ((m % 1000 / 100 : Nat) : Int) := by
    rw [show (100 : Int) = ((100 : Nat) : Int) from rfl, show (10 : Int) = ((10 : Nat) : Int) from rfl, td, wr64_id (by unfold I64; omega), tm]; omega
  have a2 : (IntKind.i64.wrap ((m : Int).tdiv 10)).tmod 10 = ((m % 1000 / 10 % 10 : Nat) : Int) := by
    rw [show (10 : Int) = ((10 : Nat) : Int) from rfl, td, wr64_id (by unfold I64; omega), tm]; omega
  have a3 : (m : Int).tmod 10 = ((m % 10 : Nat) : Int) := by
    rw [show (10 : Int) = ((10 : Nat) : Int) from rfl, tm]
  rw [dig_b a1 (by omega), dig_b a2 (by omega), dig_b a3 (by omega)]
  rfl
theorem eDg_ok : EntOk Tryz.prog eDg := entC_ok (by
  intro a rows p v news h hp
  split at h <;> simp only [Option.some.injEq, Prod.mk.injEq, reduceCtorEq] at h
  obtain ⟨rfl, rfl, rfl⟩ := h
  unfold digZ; rw [sealV_eq]
  exact Dg_con _ hp)
theorem eDr_ok : EntOk Tryz.prog eDr := entC_ok (by
  intro a rows p v news h hp
  split at h <;> simp only [Option.some.injEq, Prod.mk.injEq, reduceCtorEq] at h
  obtain ⟨rfl, rfl, rfl⟩ := h
  unfold digZ; rw [sealV_eq]
  exact Dr_con _ hp)
end Go.Proofs.YtkjppedfedaenaaGreatDoor.cy
