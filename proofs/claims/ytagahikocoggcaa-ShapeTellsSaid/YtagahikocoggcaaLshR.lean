/- The document's own numbers, values of settings, right frames. -/
import Derived.Test.YtagahikocoggcaaSz9
import Derived.Test.YtagahikocoggcaaRows
import Derived.Test.YtagahikocoggcaaLshOf
set_option maxRecDepth 20000
set_option linter.unusedSimpArgs false
set_option linter.unusedVariables false
namespace Go.Proofs.Ytagahikocoggcaa.sh
open Go Go.Ev Go.Sy Go.RowKit Go.Proofs.Ytagahikocoggcaa.gl
noncomputable def eFour : EntM := entC 28 fun a r => match a, r with
  | [.slice (some ⟨0, 0, none⟩) n 1], [r0] => some (IsB r0 n ∧ 4 ≤ n ∧ n ≤ maxLen, .int .i64 (low4R r0), [])
  | _, _ => none
noncomputable def eAll : EntM := entC 29 fun a r => match a, r with
  | [.slice (some ⟨0, 0, none⟩) n 1], [r0] => some (IsB r0 n ∧ 4 ≤ n ∧ n ≤ maxLen, .int .i64 (num4R r0), [])
  | _, _ => none
noncomputable def eRval : EntM := entC 40 fun a r => match a, r with
  | [.agg ⟨[.int .i64 i, .int .i64 v]⟩], [] => some (True, .int .i64 (valI i v), [])
  | _, _ => none
noncomputable def tRset : List EntM := [eAll, eRval]
noncomputable abbrev EtRset : Env := envT Try.prog tRset
noncomputable def eRrt : EntM := entC 25 fun a r => match a, r with
  | [.agg ⟨[.int .i64 ty, .int .i64 fl, .int .i64 st, .slice (some ⟨0, 0, none⟩) n 1]⟩], [r0] => some (IsB r0 n, .bool (rightB ty fl st n), [])
  | _, _ => none
theorem four_vc (l : List UInt8) (n : Nat) (v : Int) : mcall E0 noM 60 28 [.slice (some ⟨0, 0, none⟩) n 1] ⟨mkR (nums 0 [bRo l]), 1⟩ (retIs 1 (.int .i64 v) [bRo l]) =
  (br (decide ((0 : Int) ≤ (0 : Int) ∧ (0 : Int) < (↑n : Int)))
   ((Eq (α := Option Value) ((bCells l)[(0 : Nat)]?) (some (Value.int IntKind.u8 (cellI (bCells l) (0 : Nat))))) ∧
   (br (decide ((0 : Int) ≤ (1 : Int) ∧ (1 : Int) < (↑n : Int)))
    ((Eq (α := Option Value) ((bCells l)[(1 : Nat)]?) (some (Value.int IntKind.u8 (cellI (bCells l) (1 : Nat))))) ∧
    (br (decide ((0 : Int) ≤ (2 : Int) ∧ (2 : Int) < (↑n : Int)))
     ((Eq (α := Option Value) ((bCells l)[(2 : Nat)]?) (some (Value.int IntKind.u8 (cellI (bCells l) (2 : Nat))))) ∧
     (br (decide ((0 : Int) ≤ (3 : Int) ∧ (3 : Int) < (↑n : Int)))
      ((Eq (α := Option Value) ((bCells l)[(3 : Nat)]?) (some (Value.int IntKind.u8 (cellI (bCells l) (3 : Nat))))) ∧
      ((Eq (α := Option Value) ((bCells l)[(0 : Nat)]?) (some (Value.int IntKind.u8 (cellI (bCells l) (0 : Nat))))) ∧
      ((Value.int IntKind.u8 (cellI (bCells l) (0 : Nat)) = Value.int IntKind.u8 (cellI (bCells l) (0 : Nat))) ∧
      ((Value.int IntKind.i64 (IntKind.wrap IntKind.i64 (iand IntKind.u8 (cellI (bCells l) (0 : Nat)) (127 : Int))) = Value.int IntKind.i64 (IntKind.wrap IntKind.i64 (iand IntKind.u8 (cellI (bCells l) (0 : Nat)) (127 : Int)))) ∧
      ((Eq (α := Option Value) ((bCells l)[(1 : Nat)]?) (some (Value.int IntKind.u8 (cellI (bCells l) (1 : Nat))))) ∧
      ((Value.int IntKind.u8 (cellI (bCells l) (1 : Nat)) = Value.int IntKind.u8 (cellI (bCells l) (1 : Nat))) ∧
      ((Value.int IntKind.i64 (IntKind.wrap IntKind.i64 (cellI (bCells l) (1 : Nat))) = Value.int IntKind.i64 (IntKind.wrap IntKind.i64 (cellI (bCells l) (1 : Nat)))) ∧
      ((Eq (α := Option Value) ((bCells l)[(2 : Nat)]?) (some (Value.int IntKind.u8 (cellI (bCells l) (2 : Nat))))) ∧
      ((Value.int IntKind.u8 (cellI (bCells l) (2 : Nat)) = Value.int IntKind.u8 (cellI (bCells l) (2 : Nat))) ∧
      ((Value.int IntKind.i64 (IntKind.wrap IntKind.i64 (cellI (bCells l) (2 : Nat))) = Value.int IntKind.i64 (IntKind.wrap IntKind.i64 (cellI (bCells l) (2 : Nat)))) ∧
      ((Eq (α := Option Value) ((bCells l)[(3 : Nat)]?) (some (Value.int IntKind.u8 (cellI (bCells l) (3 : Nat))))) ∧
      ((Value.int IntKind.u8 (cellI (bCells l) (3 : Nat)) = Value.int IntKind.u8 (cellI (bCells l) (3 : Nat))) ∧
      ((Value.int IntKind.i64 (IntKind.wrap IntKind.i64 (cellI (bCells l) (3 : Nat))) = Value.int IntKind.i64 (IntKind.wrap IntKind.i64 (cellI (bCells l) (3 : Nat)))) ∧
      ((v = ior IntKind.i64 (ior IntKind.i64 (ior IntKind.i64 (ishl IntKind.i64 (IntKind.wrap IntKind.i64 (iand IntKind.u8 (cellI (bCells l) (0 : Nat)) (127 : Int))) (24 : Int)) (ishl IntKind.i64 (IntKind.wrap IntKind.i64 (cellI (bCells l) (1 : Nat))) (16 : Int))) (ishl IntKind.i64 (IntKind.wrap IntKind.i64 (cellI (bCells l) (2 : Nat))) (8 : Int))) (IntKind.wrap IntKind.i64 (cellI (bCells l) (3 : Nat)))) ∧
      ((Eq (α := List Value) (bCells l) (bCells l)) ∧
      ((Plain (bCells l)) ∧
      True))))))))))))))))
      False))
     False))
    False))
   False) := by kernel_rfl
theorem all_vc (l : List UInt8) (n : Nat) (v : Int) : mcall E0 noM 60 29 [.slice (some ⟨0, 0, none⟩) n 1] ⟨mkR (nums 0 [bRo l]), 1⟩ (retIs 1 (.int .i64 v) [bRo l]) =
  (br (decide ((0 : Int) ≤ (0 : Int) ∧ (0 : Int) < (↑n : Int)))
   ((Eq (α := Option Value) ((bCells l)[(0 : Nat)]?) (some (Value.int IntKind.u8 (cellI (bCells l) (0 : Nat))))) ∧
   (br (decide ((0 : Int) ≤ (1 : Int) ∧ (1 : Int) < (↑n : Int)))
    ((Eq (α := Option Value) ((bCells l)[(1 : Nat)]?) (some (Value.int IntKind.u8 (cellI (bCells l) (1 : Nat))))) ∧
    (br (decide ((0 : Int) ≤ (2 : Int) ∧ (2 : Int) < (↑n : Int)))
     ((Eq (α := Option Value) ((bCells l)[(2 : Nat)]?) (some (Value.int IntKind.u8 (cellI (bCells l) (2 : Nat))))) ∧
     (br (decide ((0 : Int) ≤ (3 : Int) ∧ (3 : Int) < (↑n : Int)))
      ((Eq (α := Option Value) ((bCells l)[(3 : Nat)]?) (some (Value.int IntKind.u8 (cellI (bCells l) (3 : Nat))))) ∧
      ((Eq (α := Option Value) ((bCells l)[(0 : Nat)]?) (some (Value.int IntKind.u8 (cellI (bCells l) (0 : Nat))))) ∧
      ((Value.int IntKind.u8 (cellI (bCells l) (0 : Nat)) = Value.int IntKind.u8 (cellI (bCells l) (0 : Nat))) ∧
      ((Value.int IntKind.i64 (IntKind.wrap IntKind.i64 (cellI (bCells l) (0 : Nat))) = Value.int IntKind.i64 (IntKind.wrap IntKind.i64 (cellI (bCells l) (0 : Nat)))) ∧
      ((Eq (α := Option Value) ((bCells l)[(1 : Nat)]?) (some (Value.int IntKind.u8 (cellI (bCells l) (1 : Nat))))) ∧
      ((Value.int IntKind.u8 (cellI (bCells l) (1 : Nat)) = Value.int IntKind.u8 (cellI (bCells l) (1 : Nat))) ∧
      ((Value.int IntKind.i64 (IntKind.wrap IntKind.i64 (cellI (bCells l) (1 : Nat))) = Value.int IntKind.i64 (IntKind.wrap IntKind.i64 (cellI (bCells l) (1 : Nat)))) ∧
      ((Eq (α := Option Value) ((bCells l)[(2 : Nat)]?) (some (Value.int IntKind.u8 (cellI (bCells l) (2 : Nat))))) ∧
      ((Value.int IntKind.u8 (cellI (bCells l) (2 : Nat)) = Value.int IntKind.u8 (cellI (bCells l) (2 : Nat))) ∧
      ((Value.int IntKind.i64 (IntKind.wrap IntKind.i64 (cellI (bCells l) (2 : Nat))) = Value.int IntKind.i64 (IntKind.wrap IntKind.i64 (cellI (bCells l) (2 : Nat)))) ∧
      ((Eq (α := Option Value) ((bCells l)[(3 : Nat)]?) (some (Value.int IntKind.u8 (cellI (bCells l) (3 : Nat))))) ∧
      ((Value.int IntKind.u8 (cellI (bCells l) (3 : Nat)) = Value.int IntKind.u8 (cellI (bCells l) (3 : Nat))) ∧
      ((Value.int IntKind.i64 (IntKind.wrap IntKind.i64 (cellI (bCells l) (3 : Nat))) = Value.int IntKind.i64 (IntKind.wrap IntKind.i64 (cellI (bCells l) (3 : Nat)))) ∧
      ((v = ior IntKind.i64 (ior IntKind.i64 (ior IntKind.i64 (ishl IntKind.i64 (IntKind.wrap IntKind.i64 (cellI (bCells l) (0 : Nat))) (24 : Int)) (ishl IntKind.i64 (IntKind.wrap IntKind.i64 (cellI (bCells l) (1 : Nat))) (16 : Int))) (ishl IntKind.i64 (IntKind.wrap IntKind.i64 (cellI (bCells l) (2 : Nat))) (8 : Int))) (IntKind.wrap IntKind.i64 (cellI (bCells l) (3 : Nat)))) ∧
      ((Eq (α := List Value) (bCells l) (bCells l)) ∧
      ((Plain (bCells l)) ∧
      True))))))))))))))))
      False))
     False))
    False))
   False) := by kernel_rfl
theorem rval_vc (s : Se) (z : Int) : mcall E0 noM 60 40 [.agg ⟨seC s⟩] ⟨mkR (nums 0 []), 0⟩ (retIs 0 (.int .i64 z) []) =
  (br (s.1 == (2 : Int))
   (br (decide (s.2 < (0 : Int)))
    ((z = (1 : Int)) ∧
    True)
    (br (decide (s.2 > (1 : Int)))
     ((z = (1 : Int)) ∧
     True)
     ((z = (0 : Int)) ∧
     True)))
   (br (s.1 == (4 : Int))
    (br (decide (s.2 < (0 : Int)))
     ((z = (3 : Int)) ∧
     True)
     (br (decide (s.2 > (2147483647 : Int)))
      ((z = (3 : Int)) ∧
      True)
      ((z = (0 : Int)) ∧
      True)))
    (br (s.1 == (5 : Int))
     (br (decide (s.2 < (16384 : Int)))
      ((z = (1 : Int)) ∧
      True)
      (br (decide (s.2 > (16777215 : Int)))
       ((z = (1 : Int)) ∧
       True)
       ((z = (0 : Int)) ∧
       True)))
     ((z = (0 : Int)) ∧
     True)))) := by kernel_rfl
theorem Rrt_vc (ty fl st : Int) (l : List UInt8) (b : Bool) : mcall E0 noM 60 25 [.agg ⟨frCy ty fl st 0 l.length⟩] ⟨mkR (nums 0 [bRo l]), 1⟩ (retIs 1 (.bool b) [bRo l]) =
  (br (decide (ty ≥ (0 : Int)))
   (br (decide (ty < (256 : Int)))
    (br (decide (fl ≥ (0 : Int)))
     (br (decide (fl < (256 : Int)))
      (br (decide (st ≥ (0 : Int)))
       (br (decide (st ≤ (2147483647 : Int)))
        ((b = decide (Int.ofNat (List.length l) ≤ (16777215 : Int))) ∧
        ((Eq (α := List Value) (bCells l) (bCells l)) ∧
        ((Plain (bCells l)) ∧
        True)))
        ((b = false) ∧
        ((Eq (α := List Value) (bCells l) (bCells l)) ∧
        ((Plain (bCells l)) ∧
        True))))
       ((b = false) ∧
       ((Eq (α := List Value) (bCells l) (bCells l)) ∧
       ((Plain (bCells l)) ∧
       True))))
      ((b = false) ∧
      ((Eq (α := List Value) (bCells l) (bCells l)) ∧
      ((Plain (bCells l)) ∧
      True))))
     ((b = false) ∧
     ((Eq (α := List Value) (bCells l) (bCells l)) ∧
     ((Plain (bCells l)) ∧
     True))))
    ((b = false) ∧
    ((Eq (α := List Value) (bCells l) (bCells l)) ∧
    ((Plain (bCells l)) ∧
    True))))
   ((b = false) ∧
   ((Eq (α := List Value) (bCells l) (bCells l)) ∧
   ((Plain (bCells l)) ∧
   True)))) := by kernel_rfl
theorem four_con (l : List UInt8) (h : 4 ≤ l.length) (hl : l.length ≤ maxLen) : Con Try.prog 28 [.slice (some ⟨0, 0, none⟩) l.length 1] [bRo l] (.int .i64 (low4 l : Nat)) [bRo l] := by
  refine con_vc (E := E0) mixed (calls_envN _) (lok_envN _) (M := noM) lm_none (four_vc l _ _) ?_
  simp only [ofNat_eq, toNat_cast, Nat.zero_add, Nat.add_zero, Nat.mul_one, List.drop_zero, bCells_len, bCells_drop, bCells_take, bCells_app, bCells_one, bCells_plain, List.length_replicate, List.length_append, List.length_take, List.length_drop, List.take_length, and_true, true_and, and_self, decide_true, List.length_nil, List.length_cons, Nat.sub_zero, dB_mk, dB_ro, List.take_zero]
  obtain ⟨a1, a2⟩ := bGet l 0 (by omega)
  obtain ⟨b1, b2⟩ := bGet l 1 (by omega)
  obtain ⟨c1, c2⟩ := bGet l 2 (by omega)
  obtain ⟨d1, d2⟩ := bGet l 3 (by omega)
  simp only [a1, a2, b1, b2, c1, c2, d1, d2, true_and]
  refine br_dec (by omega) (br_dec (by omega) (br_dec (by omega) (br_dec (by omega) ?_)))
  have e : iand .u8 ((l.getD 0 0).toNat : Int) 127 = (((l.getD 0 0).toNat % 128 : Nat) : Int) := by
    have := iand8_nat (a := (l.getD 0 0).toNat) (b := 127) (u8_lt _) (by omega)
    rw [show (127 : Nat) = 2 ^ 7 - 1 from rfl, and_low] at this; exact this
  rw [e, cat4 (by omega) (u8_lt _) (u8_lt _) (u8_lt _), low4_at l h]
theorem all_con (l : List UInt8) (h : 4 ≤ l.length) (hl : l.length ≤ maxLen) : Con Try.prog 29 [.slice (some ⟨0, 0, none⟩) l.length 1] [bRo l] (.int .i64 (num4 l : Nat)) [bRo l] := by
  refine con_vc (E := E0) mixed (calls_envN _) (lok_envN _) (M := noM) lm_none (all_vc l _ _) ?_
  simp only [ofNat_eq, toNat_cast, Nat.zero_add, Nat.add_zero, Nat.mul_one, List.drop_zero, bCells_len, bCells_drop, bCells_take, bCells_app, bCells_one, bCells_plain, List.length_replicate, List.length_append, List.length_take, List.length_drop, List.take_length, and_true, true_and, and_self, decide_true, List.length_nil, List.length_cons, Nat.sub_zero, dB_mk, dB_ro, List.take_zero]
  obtain ⟨a1, a2⟩ := bGet l 0 (by omega)
  obtain ⟨b1, b2⟩ := bGet l 1 (by omega)
  obtain ⟨c1, c2⟩ := bGet l 2 (by omega)
  obtain ⟨d1, d2⟩ := bGet l 3 (by omega)
  simp only [a1, a2, b1, b2, c1, c2, d1, d2, true_and]
  refine br_dec (by omega) (br_dec (by omega) (br_dec (by omega) (br_dec (by omega) ?_)))
  rw [cat4 (u8_lt _) (u8_lt _) (u8_lt _) (u8_lt _), num4_at l h]
theorem rval_con (i v : Int) : Con Try.prog 40 [.agg ⟨[.int .i64 i, .int .i64 v]⟩] [] (.int .i64 (valI i v)) [] := by
  refine con_vc (E := E0) mixed (calls_envN _) (lok_envN _) (M := noM) lm_none (rval_vc ⟨i, v⟩ _) ?_
  simp only [br_iff]
  unfold valI
  grind
theorem Rrt_con (ty fl st : Int) (l : List UInt8) : Con Try.prog 25 [.agg ⟨frCy ty fl st 0 l.length⟩] [bRo l] (.bool (rightB ty fl st l.length)) [bRo l] := by
  refine con_vc (E := E0) mixed (calls_envN _) (lok_envN _) (M := noM) lm_none (Rrt_vc ty fl st l _) ?_
  simp only [br_iff]
  unfold rightB
  simp only [decide_eq_true_eq, decide_eq_false_iff_not, ofNat_eq, toNat_cast, Nat.zero_add, Nat.add_zero, Nat.mul_one, List.drop_zero, bCells_len, bCells_drop, bCells_take, bCells_app, bCells_one, bCells_plain, List.length_replicate, List.length_append, List.length_take, List.length_drop, List.take_length, and_true, true_and, and_self, decide_true, List.length_nil, List.length_cons, Nat.sub_zero, dB_mk, dB_ro, List.take_zero]
  grind
theorem eFour_ok : EntOk Try.prog eFour := entC_ok (by
  intro a rows p v news h hp
  split at h <;> simp only [Option.some.injEq, Prod.mk.injEq, reduceCtorEq] at h
  obtain ⟨rfl, rfl, rfl⟩ := h
  obtain ⟨⟨l, rfl, rfl⟩, h1, h2⟩ := hp
  simp only [low4R, dB_ro, List.append_nil]
  exact four_con l h1 h2)
theorem eAll_ok : EntOk Try.prog eAll := entC_ok (by
  intro a rows p v news h hp
  split at h <;> simp only [Option.some.injEq, Prod.mk.injEq, reduceCtorEq] at h
  obtain ⟨rfl, rfl, rfl⟩ := h
  obtain ⟨⟨l, rfl, rfl⟩, h1, h2⟩ := hp
  simp only [num4R, dB_ro, List.append_nil]
  exact all_con l h1 h2)
theorem eRval_ok : EntOk Try.prog eRval := entC_ok (by
  intro a rows p v news h hp
  split at h <;> simp only [Option.some.injEq, Prod.mk.injEq, reduceCtorEq] at h
  obtain ⟨rfl, rfl, rfl⟩ := h
  exact rval_con _ _)
theorem tRset_ok : ∀ x ∈ tRset, EntOk Try.prog x := all_cons eAll_ok (all_cons eRval_ok (all_nil))
theorem eRrt_ok : EntOk Try.prog eRrt := entC_ok (by
  intro a rows p v news h hp
  split at h <;> simp only [Option.some.injEq, Prod.mk.injEq, reduceCtorEq] at h
  obtain ⟨rfl, rfl, rfl⟩ := h
  obtain ⟨l, rfl, rfl⟩ := hp
  rw [List.append_nil]
  exact Rrt_con _ _ _ l)
end Go.Proofs.Ytagahikocoggcaa.sh
