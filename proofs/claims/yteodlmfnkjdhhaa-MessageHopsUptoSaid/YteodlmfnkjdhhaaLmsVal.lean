/- May a text be a field's value? -/
import Derived.Test.YteodlmfnkjdhhaaSz9
import Derived.Test.YteodlmfnkjdhhaaRows
import Derived.Test.YteodlmfnkjdhhaaLmsBase
import Derived.Test.YteodlmfnkjdhhaaLtokb_control
import Derived.Test.YteodlmfnkjdhhaaLtokb_space
import Derived.Test.YteodlmfnkjdhhaaLtokb_blank
set_option linter.unusedSimpArgs false
set_option linter.unusedVariables false
namespace Go.Proofs.Yteodlmfnkjdhhaa.tk
open Go Go.Ev Go.Sy Go.RowKit Go.Proofs.Yteodlmfnkjdhhaa.gl
def valA (l : List UInt8) : Bool := l.all fun c => !ctlN c.toNat
def valS (s : ByteArray) : Bool := valL (L s)
noncomputable def eCtlB : EntM := entC 49 fun a r => match a, r with
  | [.int .u8 n], [] => some (Byt n, .bool (ctlI n), [])
  | _, _ => none
noncomputable def eSpB : EntM := entC 50 fun a r => match a, r with
  | [.int .u8 n], [] => some (Byt n, .bool (spI n), [])
  | _, _ => none
noncomputable def eBlB : EntM := entC 52 fun a r => match a, r with
  | [.int .u8 n], [] => some (Byt n, .bool (spI n), [])
  | _, _ => none
noncomputable def eVal : EntM := entC 29 fun a r => match a, r with
  | [.string s], [] => some ((L s).length ≤ maxLen, .bool (valS s), [])
  | _, _ => none
noncomputable def eRvl : EntM := entC 37 fun a r => match a, r with
  | [.string s], [] => some ((L s).length ≤ maxLen, .bool (valS s), [])
  | _, _ => none
noncomputable def tVal : List EntM := [eCtlB, eSpB]
noncomputable abbrev EtVal : Env := envT Try.prog tVal
noncomputable def tRvl : List EntM := [eBlB]
noncomputable abbrev EtRvl : Env := envT Try.prog tRvl
def pVal : List Nat := [0, 1, 0, 1]
def slVal (l : List UInt8) (i : Nat) : List (Nat × Value) := [(0, .string (bs l)), (5, .int .i64 (l.length : Nat)), (6, .int .i64 (i : Nat))]
def wsVal (l : List UInt8) : List (Gate Unit) := [⟨.exit 0, fun _ => valA l = true, fun _ => [(0, .string (bs l))], fun _ => [], 0⟩, ⟨.ret, fun _ => valA l = false, fun _ => [(2, .bool false)], fun _ => [], 0⟩]
def specVal : Sy.Spec := specOf 0 0 31 (fun l : List UInt8 => l.length ≤ maxLen) (fun l => slVal l 0) (fun _ => []) wsVal
def mVal := mOf [(29, pVal, specVal)]
def slRvl (l : List UInt8) (i : Nat) : List (Nat × Value) := [(0, .string (bs l)), (3, .int .i64 (i : Nat))]
def specRvl : Sy.Spec := specOf 0 0 43 (fun l : List UInt8 => l.length ≤ maxLen) (fun l => slRvl l 0) (fun _ => []) wsVal
def mRvl := mOf [(37, pVal, specRvl)]
theorem Val_round (l : List UInt8) (i : Nat) (Inv : Nat → Prop) (m : Nat → Nat) : mev EtVal noM 60 29 (0 :: pVal) false (codeOf Try.prog 29 (0 :: pVal)) ⟨mkOv (slVal l i), 31, []⟩ none ⟨mkR [], 0⟩ (roundK 0 0 31 Inv m (slVal l) (fun _ => []) (wsVal l) i) =
  (br (decide ((↑i : Int) < (↑(List.length l) : Int)))
   (br (decide ((0 : Int) ≤ (↑i : Int) ∧ (↑i : Int) < (↑(List.length (Array.toList (ByteArray.data (bs l)))) : Int)))
    ((((True ∧ True) ∧ (True ∧ (True ∧ Byt (byteAt (bs l) (Int.toNat (↑i : Int))))))) ∧
    (br (ctlI (byteAt (bs l) (Int.toNat (↑i : Int))))
     (∃ y : Unit, ((valA l = false) ∧
     ((false = false) ∧
     True)))
     (∃ j : Nat, ((Inv j) ∧
     ((m j < m i) ∧
     ((bs l = bs l) ∧
     (((↑(List.length l) : Int) = (↑(List.length l) : Int)) ∧
     (((↑j : Int) = IntKind.wrap IntKind.i64 ((↑i : Int) + (1 : Int))) ∧
     True))))))))
    False)
   (∃ y : Unit, ((valA l = true) ∧
   ((bs l = bs l) ∧
   True)))) := by kernel_rfl
theorem Val_vc (l : List UInt8) (v : Bool) : mcall EtVal mVal 60 29 [.string (bs l)] ⟨mkR (nums 0 []), 0⟩ (retIs 0 (.bool v) []) =
  (∃ g : List UInt8, ((List.length g ≤ (9223372036854775807 : Nat)) ∧
  ((bs g = bs l) ∧
  (((↑(List.length g) : Int) = Int.ofNat (List.length (Array.toList (ByteArray.data (bs l))))) ∧
  (((0 : Int) = (0 : Int)) ∧
  (∀ (side : Bool), (br (side)
   (∀ (y : Unit), ((valA g = true) →
   (br (strEq (bs g) (ByteArray.mk #[]))
    ((v = true) ∧
    True)
    (br (decide ((0 : Int) ≤ (0 : Int) ∧ (0 : Int) < (↑(List.length (Array.toList (ByteArray.data (bs g)))) : Int)))
     ((((True ∧ True) ∧ (True ∧ (True ∧ Byt (byteAt (bs g) (0 : Nat)))))) ∧
     (br (!spI (byteAt (bs g) (0 : Nat)))
      (br (decide ((0 : Int) ≤ IntKind.wrap IntKind.i64 (Int.ofNat (List.length (Array.toList (ByteArray.data (bs g)))) - (1 : Int)) ∧ IntKind.wrap IntKind.i64 (Int.ofNat (List.length (Array.toList (ByteArray.data (bs g)))) - (1 : Int)) < (↑(List.length (Array.toList (ByteArray.data (bs g)))) : Int)))
       ((((True ∧ True) ∧ (True ∧ (True ∧ Byt (byteAt (bs g) (Int.toNat (IntKind.wrap IntKind.i64 (Int.ofNat (List.length (Array.toList (ByteArray.data (bs g)))) - (1 : Int))))))))) ∧
       ((v = !spI (byteAt (bs g) (Int.toNat (IntKind.wrap IntKind.i64 (Int.ofNat (List.length (Array.toList (ByteArray.data (bs g)))) - (1 : Int)))))) ∧
       True))
       False)
      ((v = false) ∧
      True)))
     False))))
   (∀ (y : Unit), ((valA g = false) →
   ((v = false) ∧
   True)))))))))) := by kernel_rfl
theorem Rvl_round (l : List UInt8) (i : Nat) (Inv : Nat → Prop) (m : Nat → Nat) : mev EtRvl noM 60 37 (0 :: pVal) false (codeOf Try.prog 37 (0 :: pVal)) ⟨mkOv (slRvl l i), 43, []⟩ none ⟨mkR [], 0⟩ (roundK 0 0 43 Inv m (slRvl l) (fun _ => []) (wsVal l) i) =
  (br (decide ((↑i : Int) < Int.ofNat (List.length (Array.toList (ByteArray.data (bs l))))))
   (br (decide ((0 : Int) ≤ (↑i : Int) ∧ (↑i : Int) < (↑(List.length (Array.toList (ByteArray.data (bs l)))) : Int)))
    (br (decide (byteAt (bs l) (Int.toNat (↑i : Int)) < (32 : Int)))
     (br (decide ((0 : Int) ≤ (↑i : Int) ∧ (↑i : Int) < (↑(List.length (Array.toList (ByteArray.data (bs l)))) : Int)))
      (br (byteAt (bs l) (Int.toNat (↑i : Int)) != (9 : Int))
       (∃ y : Unit, ((valA l = false) ∧
       ((false = false) ∧
       True)))
       (br (decide ((0 : Int) ≤ (↑i : Int) ∧ (↑i : Int) < (↑(List.length (Array.toList (ByteArray.data (bs l)))) : Int)))
        (br (byteAt (bs l) (Int.toNat (↑i : Int)) == (127 : Int))
         (∃ y : Unit, ((valA l = false) ∧
         ((false = false) ∧
         True)))
         (∃ j : Nat, ((Inv j) ∧
         ((m j < m i) ∧
         ((bs l = bs l) ∧
         (((↑j : Int) = IntKind.wrap IntKind.i64 ((↑i : Int) + (1 : Int))) ∧
         True))))))
        False))
      False)
     (br (decide ((0 : Int) ≤ (↑i : Int) ∧ (↑i : Int) < (↑(List.length (Array.toList (ByteArray.data (bs l)))) : Int)))
      (br (byteAt (bs l) (Int.toNat (↑i : Int)) == (127 : Int))
       (∃ y : Unit, ((valA l = false) ∧
       ((false = false) ∧
       True)))
       (∃ j : Nat, ((Inv j) ∧
       ((m j < m i) ∧
       ((bs l = bs l) ∧
       (((↑j : Int) = IntKind.wrap IntKind.i64 ((↑i : Int) + (1 : Int))) ∧
       True))))))
      False))
    False)
   (∃ y : Unit, ((valA l = true) ∧
   ((bs l = bs l) ∧
   True)))) := by kernel_rfl
theorem Rvl_vc (l : List UInt8) (v : Bool) : mcall EtRvl mRvl 60 37 [.string (bs l)] ⟨mkR (nums 0 []), 0⟩ (retIs 0 (.bool v) []) =
  (∃ g : List UInt8, ((List.length g ≤ (9223372036854775807 : Nat)) ∧
  ((bs g = bs l) ∧
  (((0 : Int) = (0 : Int)) ∧
  (∀ (side : Bool), (br (side)
   (∀ (y : Unit), ((valA g = true) →
   (br (strEq (bs g) (ByteArray.mk #[]))
    ((v = true) ∧
    True)
    (br (decide ((0 : Int) ≤ (0 : Int) ∧ (0 : Int) < (↑(List.length (Array.toList (ByteArray.data (bs g)))) : Int)))
     ((((True ∧ True) ∧ (True ∧ (True ∧ Byt (byteAt (bs g) (0 : Nat)))))) ∧
     (br (!spI (byteAt (bs g) (0 : Nat)))
      (br (decide ((0 : Int) ≤ IntKind.wrap IntKind.i64 (Int.ofNat (List.length (Array.toList (ByteArray.data (bs g)))) - (1 : Int)) ∧ IntKind.wrap IntKind.i64 (Int.ofNat (List.length (Array.toList (ByteArray.data (bs g)))) - (1 : Int)) < (↑(List.length (Array.toList (ByteArray.data (bs g)))) : Int)))
       ((((True ∧ True) ∧ (True ∧ (True ∧ Byt (byteAt (bs g) (Int.toNat (IntKind.wrap IntKind.i64 (Int.ofNat (List.length (Array.toList (ByteArray.data (bs g)))) - (1 : Int))))))))) ∧
       ((v = !spI (byteAt (bs g) (Int.toNat (IntKind.wrap IntKind.i64 (Int.ofNat (List.length (Array.toList (ByteArray.data (bs g)))) - (1 : Int)))))) ∧
       True))
       False)
      ((v = false) ∧
      True)))
     False))))
   (∀ (y : Unit), ((valA g = false) →
   ((v = false) ∧
   True))))))))) := by kernel_rfl
theorem eCtlB_ok : EntOk Try.prog eCtlB := entC_ok (by
  intro a rows p v news h hp
  split at h <;> simp only [Option.some.injEq, Prod.mk.injEq, reduceCtorEq] at h
  obtain ⟨rfl, rfl, rfl⟩ := h
  obtain ⟨k, rfl⟩ := byt_nat hp
  exact control_con k)
theorem eSpB_ok : EntOk Try.prog eSpB := entC_ok (by
  intro a rows p v news h hp
  split at h <;> simp only [Option.some.injEq, Prod.mk.injEq, reduceCtorEq] at h
  obtain ⟨rfl, rfl, rfl⟩ := h
  obtain ⟨k, rfl⟩ := byt_nat hp
  exact space_con k)
theorem eBlB_ok : EntOk Try.prog eBlB := entC_ok (by
  intro a rows p v news h hp
  split at h <;> simp only [Option.some.injEq, Prod.mk.injEq, reduceCtorEq] at h
  obtain ⟨rfl, rfl, rfl⟩ := h
  obtain ⟨k, rfl⟩ := byt_nat hp
  exact blank_con k)
theorem tVal_ok : ∀ x ∈ tVal, EntOk Try.prog x := all_cons eCtlB_ok (all_cons eSpB_ok (all_nil))
theorem tRvl_ok : ∀ x ∈ tRvl, EntOk Try.prog x := all_cons eBlB_ok (all_nil)
theorem valA_at {l : List UInt8} {i : Nat} (hi : i < l.length) : valA (l.take (i + 1)) = (valA (l.take i) && !ctlN l[i].toNat) := by
  unfold valA
  rw [List.take_succ_eq_append_getElem hi, List.all_append]; simp
theorem valA_no {l : List UInt8} {i : Nat} (hi : i < l.length) (h : ctlN l[i].toNat = true) : valA l = false := by
  unfold valA
  rw [List.all_eq_false]
  exact ⟨l[i], List.getElem_mem hi, by simp [h]⟩
theorem Val_piece : PieceOk EtVal 0 (29, pVal, specVal) := by
  refine piece_loop mixed (calls_envT tVal_ok) (lok_envT _ _) lm_none (n := 60) (by kernel_rfl) (fun _ : List UInt8 => (0 : Nat)) (fun l i => i ≤ l.length ∧ valA (l.take i) = true) (fun l i => l.length - i) (sl := slVal) (rl := fun _ _ => []) (fun l hg => ⟨Nat.zero_le _, rfl⟩) (fun l i hg hi => ?_)
  refine (Val_round l i _ _).mpr ?_
  obtain ⟨h1, h2⟩ := hi
  have hm : maxLen = 9223372036854775807 := by unfold maxLen; rfl
  simp only [ofNat_eq, toNat_cast, Nat.zero_add, Nat.add_zero, Nat.mul_one, List.drop_zero, bCells_len, bCells_drop, bCells_take, bCells_app, bCells_one, bCells_plain, List.length_replicate, List.length_append, List.length_take, List.length_drop, List.take_length, and_true, true_and, and_self, decide_true, List.length_nil, List.length_cons, Nat.sub_zero, dB_mk, dB_ro, List.take_zero, bs_dd]
  refine br_if (fun h => br_dec (by omega) ?_) (fun h => ⟨(), by rw [List.take_of_length_le (by omega)] at h2; exact h2⟩)
  have hi : i < l.length := by omega
  have hs := valA_at hi
  have hn := valA_no hi
  rw [byteAt_bs hi]
  refine ⟨u8_b _, br_intro (fun h => ⟨(), hn ?_⟩) (fun h => ⟨i + 1, ⟨by omega, ?_⟩, by omega, (i64_succ (by omega)).symm⟩)⟩
  · simpa only [ctlI, toNat_cast] using h
  · rw [hs, h2]; simp only [ctlI, toNat_cast] at h; simp [h]
theorem Rvl_piece : PieceOk EtRvl 0 (37, pVal, specRvl) := by
  refine piece_loop mixed (calls_envT tRvl_ok) (lok_envT _ _) lm_none (n := 60) (by kernel_rfl) (fun _ : List UInt8 => (0 : Nat)) (fun l i => i ≤ l.length ∧ valA (l.take i) = true) (fun l i => l.length - i) (sl := slRvl) (rl := fun _ _ => []) (fun l hg => ⟨Nat.zero_le _, rfl⟩) (fun l i hg hi => ?_)
  refine (Rvl_round l i _ _).mpr ?_
  obtain ⟨h1, h2⟩ := hi
  have hm : maxLen = 9223372036854775807 := by unfold maxLen; rfl
  simp only [ofNat_eq, toNat_cast, Nat.zero_add, Nat.add_zero, Nat.mul_one, List.drop_zero, bCells_len, bCells_drop, bCells_take, bCells_app, bCells_one, bCells_plain, List.length_replicate, List.length_append, List.length_take, List.length_drop, List.take_length, and_true, true_and, and_self, decide_true, List.length_nil, List.length_cons, Nat.sub_zero, dB_mk, dB_ro, List.take_zero, bs_dd]
  refine br_if (fun h => br_dec (by omega) ?_) (fun h => ⟨(), by rw [List.take_of_length_le (by omega)] at h2; exact h2⟩)
  have hi : i < l.length := by omega
  have hs := valA_at hi
  have hn := valA_no hi
  rw [byteAt_bs hi]
  generalize l[i] = c at *
  have hb := u8_lt c
  have w : IntKind.wrap .i64 ((i : Int) + 1) = ((i + 1 : Nat) : Int) := i64_succ (by omega)
  have no : ctlN c.toNat = true → ∃ y : Unit, valA l = false := fun h => ⟨(), hn h⟩
  have go : ctlN c.toNat = false → ∃ j, (j ≤ l.length ∧ valA (l.take j) = true) ∧ l.length - j < l.length - i ∧ (j : Int) = ((i + 1 : Nat) : Int) := fun h => ⟨i + 1, ⟨by omega, by rw [hs, h2, h]; rfl⟩, by omega, rfl⟩
  rw [w]
  have q9 : (((c.toNat : Nat) : Int) != 9) = (c.toNat != 9) := by rw [Bool.eq_iff_iff]; simp; omega
  have q127 : (((c.toNat : Nat) : Int) == 127) = (c.toNat == 127) := by rw [Bool.eq_iff_iff]; simp; omega
  rw [q9, q127]
  have key : ctlN c.toNat = (decide (c.toNat < 32) && c.toNat != 9 || c.toNat == 127) := rfl
  refine br_if (fun k1 => br_dec (by omega) (br_intro (fun k2 => no ?_) (fun k2 => br_dec (by omega) (br_intro (fun k3 => no ?_) (fun k3 => go ?_))))) (fun k1 => br_dec (by omega) (br_intro (fun k3 => no ?_) (fun k3 => go ?_)))
  · rw [key, k2, decide_eq_true (by omega)]; rfl
  · rw [key, k3, Bool.or_true]
  · rw [key, k2, k3, Bool.and_false]; rfl
  · rw [key, k3, Bool.or_true]
  · rw [key, k3, decide_eq_false (by omega)]; rfl
theorem Val_con (l : List UInt8) (hl : l.length ≤ maxLen) : Con Try.prog 29 [.string (bs l)] [] (.bool (valL l)) [] := by
  refine con_vc (E := EtVal) mixed (calls_envT tVal_ok) (lok_envT _ _) (M := mVal) (lm_one Val_piece) (Val_vc l _) ?_
  simp only [ofNat_eq, toNat_cast, Nat.zero_add, Nat.add_zero, Nat.mul_one, List.drop_zero, bCells_len, bCells_drop, bCells_take, bCells_app, bCells_one, bCells_plain, List.length_replicate, List.length_append, List.length_take, List.length_drop, List.take_length, and_true, true_and, and_self, decide_true, List.length_nil, List.length_cons, Nat.sub_zero, dB_mk, dB_ro, List.take_zero, bs_dd]
  have hm : maxLen = 9223372036854775807 := by unfold maxLen; rfl
  refine ⟨l, by omega, rfl, rfl, br_side (fun _ h => ?_) (fun _ h => by unfold valL; unfold valA at h; rw [h]; rfl)⟩
  by_cases h0 : l = []
  · subst h0; exact br_b (strEq_me (bs [])) rfl
  have hn : 0 < l.length := List.length_pos_iff.2 h0
  have w : IntKind.wrap .i64 ((l.length : Int) - 1) = ((l.length - 1 : Nat) : Int) := by rw [wr64_id (by unfold I64; omega)]; omega
  have b0 := byteAt_bs hn
  have b1 := byteAt_bs (show l.length - 1 < l.length by omega)
  have e0 : l[0] = l.headD 0 := by cases l with | nil => exact absurd rfl h0 | cons c r => rfl
  have e1 : l[l.length - 1] = l.getLastD 0 := by rw [← List.getLast_eq_getElem h0, List.getLastD_eq_getLast?, List.getLast?_eq_some_getLast h0]; rfl
  have hv : valL l = (!spC (l.headD 0) && !spC (l.getLastD 0)) := by
    unfold valL; unfold valA at h; rw [h]
    cases l with
    | nil => exact absurd rfl h0
    | cons c r => rfl
  rw [show (⟨#[]⟩ : ByteArray) = bs [] from rfl, strEq_bs, w, toNat_cast, b0, b1, e0, e1, hv]
  simp only [spI, toNat_cast]
  refine br_nd h0 (br_dec (by omega) ⟨u8_b _, br_intro (fun k => br_dec (by omega) ⟨u8_b _, ?_⟩) (fun k => ?_)⟩)
  · unfold spC; rw [k]; rfl
  · unfold spC; rw [k]; rfl
theorem Rvl_con (l : List UInt8) (hl : l.length ≤ maxLen) : Con Try.prog 37 [.string (bs l)] [] (.bool (valL l)) [] := by
  refine con_vc (E := EtRvl) mixed (calls_envT tRvl_ok) (lok_envT _ _) (M := mRvl) (lm_one Rvl_piece) (Rvl_vc l _) ?_
  simp only [ofNat_eq, toNat_cast, Nat.zero_add, Nat.add_zero, Nat.mul_one, List.drop_zero, bCells_len, bCells_drop, bCells_take, bCells_app, bCells_one, bCells_plain, List.length_replicate, List.length_append, List.length_take, List.length_drop, List.take_length, and_true, true_and, and_self, decide_true, List.length_nil, List.length_cons, Nat.sub_zero, dB_mk, dB_ro, List.take_zero, bs_dd]
  have hm : maxLen = 9223372036854775807 := by unfold maxLen; rfl
  refine ⟨l, by omega, rfl, br_side (fun _ h => ?_) (fun _ h => by unfold valL; unfold valA at h; rw [h]; rfl)⟩
  by_cases h0 : l = []
  · subst h0; exact br_b (strEq_me (bs [])) rfl
  have hn : 0 < l.length := List.length_pos_iff.2 h0
  have w : IntKind.wrap .i64 ((l.length : Int) - 1) = ((l.length - 1 : Nat) : Int) := by rw [wr64_id (by unfold I64; omega)]; omega
  have b0 := byteAt_bs hn
  have b1 := byteAt_bs (show l.length - 1 < l.length by omega)
  have e0 : l[0] = l.headD 0 := by cases l with | nil => exact absurd rfl h0 | cons c r => rfl
  have e1 : l[l.length - 1] = l.getLastD 0 := by rw [← List.getLast_eq_getElem h0, List.getLastD_eq_getLast?, List.getLast?_eq_some_getLast h0]; rfl
  have hv : valL l = (!spC (l.headD 0) && !spC (l.getLastD 0)) := by
    unfold valL; unfold valA at h; rw [h]
    cases l with
    | nil => exact absurd rfl h0
    | cons c r => rfl
  rw [show (⟨#[]⟩ : ByteArray) = bs [] from rfl, strEq_bs, w, toNat_cast, b0, b1, e0, e1, hv]
  simp only [spI, toNat_cast]
  refine br_nd h0 (br_dec (by omega) ⟨u8_b _, br_intro (fun k => br_dec (by omega) ⟨u8_b _, ?_⟩) (fun k => ?_)⟩)
  · unfold spC; rw [k]; rfl
  · unfold spC; rw [k]; rfl
theorem eVal_ok : EntOk Try.prog eVal := entC_ok (by
  intro a rows p v news h hp
  split at h <;> simp only [Option.some.injEq, Prod.mk.injEq, reduceCtorEq] at h
  obtain ⟨rfl, rfl, rfl⟩ := h
  exact Val_con (L _) hp)
theorem eRvl_ok : EntOk Try.prog eRvl := entC_ok (by
  intro a rows p v news h hp
  split at h <;> simp only [Option.some.injEq, Prod.mk.injEq, reduceCtorEq] at h
  obtain ⟨rfl, rfl, rfl⟩ := h
  exact Rvl_con (L _) hp)
end Go.Proofs.Yteodlmfnkjdhhaa.tk
