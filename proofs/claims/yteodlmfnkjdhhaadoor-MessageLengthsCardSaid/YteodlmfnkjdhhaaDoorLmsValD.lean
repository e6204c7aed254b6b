/- May a text be a field's value? -/
import Derived.Test.YteodlmfnkjdhhaaDoorSz9
import Derived.Test.YteodlmfnkjdhhaaDoorRows
import Derived.Test.YteodlmfnkjdhhaaDoorLmsBase
import Derived.Test.YteodlmfnkjdhhaaDoorLtokb_control
import Derived.Test.YteodlmfnkjdhhaaDoorLtokb_space
set_option maxRecDepth 20000
set_option linter.unusedSimpArgs false
set_option linter.unusedVariables false
namespace Go.Proofs.YteodlmfnkjdhhaaDoor.tk
open Go Go.Ev Go.Sy Go.RowKit Go.Proofs.YteodlmfnkjdhhaaDoor.gl
def valA (l : List UInt8) : Bool := l.all fun c => !ctlN c.toNat
def valS (s : ByteArray) : Bool := valL (L s)
noncomputable def eCtlB : EntM := entC 30 fun a r => match a, r with
  | [.int .u8 n], [] => some (Byt n, .bool (ctlI n), [])
  | _, _ => none
noncomputable def eSpB : EntM := entC 31 fun a r => match a, r with
  | [.int .u8 n], [] => some (Byt n, .bool (spI n), [])
  | _, _ => none
noncomputable def eVal : EntM := entC 18 fun a r => match a, r with
  | [.string s], [] => some ((L s).length ≤ maxLen, .bool (valS s), [])
  | _, _ => none
noncomputable def tVal : List EntM := [eCtlB, eSpB]
noncomputable abbrev EtVal : Env := envT Tryd.prog tVal
def pVal : List Nat := [0, 1, 0, 1]
def slVal (l : List UInt8) (i : Nat) : List (Nat × Value) := [(0, .string (bs l)), (5, .int .i64 (l.length : Nat)), (6, .int .i64 (i : Nat))]
def wsVal (l : List UInt8) : List (Gate Unit) := [⟨.exit 0, fun _ => valA l = true, fun _ => [(0, .string (bs l))], fun _ => [], 0⟩, ⟨.ret, fun _ => valA l = false, fun _ => [(2, .bool false)], fun _ => [], 0⟩]
def specVal : Sy.Spec := specOf 0 0 31 (fun l : List UInt8 => l.length ≤ maxLen) (fun l => slVal l 0) (fun _ => []) wsVal
def mVal := mOf [(18, pVal, specVal)]
theorem Val_round (l : List UInt8) (i : Nat) (Inv : Nat → Prop) (m : Nat → Nat) : mev EtVal noM 60 18 (0 :: pVal) false (codeOf Tryd.prog 18 (0 :: pVal)) ⟨mkOv (slVal l i), 31, []⟩ none ⟨mkR [], 0⟩ (roundK 0 0 31 Inv m (slVal l) (fun _ => []) (wsVal l) i) =
  (br (decide ((↑i : Int) < (↑(List.length l) : Int))) (br (decide ((0 : Int) <= (↑i : Int) /\ (↑i : Int) < (↑(List.length (Array.toList (ByteArray.data (bs l)))) : Int)))
  ((((True /\ True) /\ (True /\ (True /\ Byt (byteAt (bs l) (Int.toNat (↑i : Int))))))) /\ (br (ctlI (byteAt (bs l) (Int.toNat (↑i : Int)))) (∃ y : Unit, ((valA l = false)
  /\ ((false = false) /\ True))) (∃ j : Nat, ((Inv j) /\ ((m j < m i) /\ ((bs l = bs l) /\ (((↑(List.length l) : Int) = (↑(List.length l) : Int)) /\ (((↑j : Int) =
  IntKind.wrap IntKind.i64 ((↑i : Int) + (1 : Int))) /\ True)))))))) False) (∃ y : Unit, ((valA l = true) /\ ((bs l = bs l) /\ True)))) := by kernel_rfl
theorem Val_vc (l : List UInt8) (v : Bool) : mcall EtVal mVal 60 18 [.string (bs l)] ⟨mkR (nums 0 []), 0⟩ (retIs 0 (.bool v) []) =
  (∃ g : List UInt8, ((List.length g <= 9223372036854775807) /\ ((bs g = bs l) /\ (((↑(List.length g) : Int) = Int.ofNat (List.length (Array.toList (ByteArray.data (bs
  l))))) /\ (((0 : Int) = (0 : Int)) /\ (∀ (side : Bool), (br (side) (∀ (y : Unit), ((valA g = true) → (br (strEq (bs g) (ByteArray.mk #[])) ((v = true) /\ True) (br (decide
  ((0 : Int) <= (0 : Int) /\ (0 : Int) < (↑(List.length (Array.toList (ByteArray.data (bs g)))) : Int))) ((((True /\ True) /\ (True /\ (True /\ Byt (byteAt (bs g) 0))))) /\
  (br (!spI (byteAt (bs g) 0)) (br (decide ((0 : Int) <= IntKind.wrap IntKind.i64 (Int.ofNat (List.length (Array.toList (ByteArray.data (bs g)))) - (1 : Int)) /\
  IntKind.wrap IntKind.i64 (Int.ofNat (List.length (Array.toList (ByteArray.data (bs g)))) - (1 : Int)) < (↑(List.length (Array.toList (ByteArray.data (bs g)))) : Int)))
  ((((True /\ True) /\ (True /\ (True /\ Byt (byteAt (bs g) (Int.toNat (IntKind.wrap IntKind.i64 (Int.ofNat (List.length (Array.toList (ByteArray.data (bs g)))) - (1 :
  Int))))))))) /\ ((v = !spI (byteAt (bs g) (Int.toNat (IntKind.wrap IntKind.i64 (Int.ofNat (List.length (Array.toList (ByteArray.data (bs g)))) - (1 : Int)))))) /\ True))
  False) ((v = false) /\ True))) False)))) (∀ (y : Unit), ((valA g = false) → ((v = false) /\ True)))))))))) := by kernel_rfl
theorem eCtlB_ok : EntOk Tryd.prog eCtlB := entC_ok (by
  intro a rows p v news h hp
  split at h <;> simp only [Option.some.injEq, Prod.mk.injEq, reduceCtorEq] at h
  obtain ⟨rfl, rfl, rfl⟩ := h
  obtain ⟨k, rfl⟩ := byt_nat hp
  exact control_con k)
theorem eSpB_ok : EntOk Tryd.prog eSpB := entC_ok (by
  intro a rows p v news h hp
  split at h <;> simp only [Option.some.injEq, Prod.mk.injEq, reduceCtorEq] at h
  obtain ⟨rfl, rfl, rfl⟩ := h
  obtain ⟨k, rfl⟩ := byt_nat hp
  exact space_con k)
theorem tVal_ok : ∀ x ∈ tVal, EntOk Tryd.prog x := all_cons eCtlB_ok (all_cons eSpB_ok (all_nil))
theorem valA_at {l : List UInt8} {i : Nat} (hi : i < l.length) : valA (l.take (i + 1)) = (valA (l.take i) && !ctlN l[i].toNat) := by
  unfold valA
  rw [List.take_succ_eq_append_getElem hi, List.all_append]; simp
theorem valA_no {l : List UInt8} {i : Nat} (hi : i < l.length) (h : ctlN l[i].toNat = true) : valA l = false := by
  unfold valA
  rw [List.all_eq_false]
  exact ⟨l[i], List.getElem_mem hi, by simp [h]⟩
theorem Val_piece : PieceOk EtVal 0 (18, pVal, specVal) := by
  refine piece_loop mixed (calls_envT tVal_ok) (lok_envT _ _) lm_none (n := 60) (by kernel_rfl) (fun _ : List UInt8 => (0 : Nat)) (fun l i => i ≤ l.length ∧ valA (l.take i) = true) (fun l i => l.length - i) (sl := slVal) (rl := fun _ _ => []) (fun l hg => ⟨Nat.zero_le _, rfl⟩) (fun l i hg hi => ?_)
  refine (Val_round l i _ _).mpr ?_
  obtain ⟨h1, h2⟩ := hi
  have hm : maxLen = 9223372036854775807 := by unfold maxLen; rfl
  simp only [ofNat_eq, toNat_cast, Nat.zero_add, Nat.add_zero, Nat.mul_one, List.drop_zero, bCells_len, bCells_drop, bCells_take, bCells_app, bCells_one, bCells_plain, List.length_replicate, List.length_append, List.length_take, List.length_drop, List.take_length, and_true, true_and, and_self, decide_true, List.length_nil, List.length_cons, Nat.sub_zero, dB_mk, dB_ro, List.take_zero, bs_dd]
  refine br_if (fun h => br_dec (by omega) ?_) (fun h => ⟨(), by rw [List.take_of_length_le (by omega)] at h2; exact h2⟩)
  have hi : i < l.length := by omega
  have hs := valA_at hi
  have hn := valA_no hi
  rw [byteAt_bs hi]
  refine ⟨u8_b _, br_intro (fun h => ⟨(), hn ?_⟩) (fun h => ⟨i + 1, ⟨by omega, ?_⟩, by omega, (i64_succ (by omega)).symm⟩)⟩
  · simpa only [ctlI, toNat_cast] using h
  · rw [hs, h2]; simp only [ctlI, toNat_cast] at h; simp [h]
theorem Val_con (l : List UInt8) (hl : l.length ≤ maxLen) : Con Tryd.prog 18 [.string (bs l)] [] (.bool (valL l)) [] := by
  refine con_vc (E := EtVal) mixed (calls_envT tVal_ok) (lok_envT _ _) (M := mVal) (lm_one Val_piece) (Val_vc l _) ?_
  simp only [ofNat_eq, toNat_cast, Nat.zero_add, Nat.add_zero, Nat.mul_one, List.drop_zero, bCells_len, bCells_drop, bCells_take, bCells_app, bCells_one, bCells_plain, List.length_replicate, List.length_append, List.length_take, List.length_drop, List.take_length, and_true, true_and, and_self, decide_true, List.length_nil, List.length_cons, Nat.sub_zero, dB_mk, dB_ro, List.take_zero, bs_dd]
  have hm : maxLen = 9223372036854775807 := by unfold maxLen; rfl
  refine ⟨l, by omega, rfl, rfl, br_side (fun _ h => ?_) (fun _ h => by unfold valL; unfold valA at h; rw [h]; rfl)⟩
  by_cases h0 : l = []
  · subst h0; exact br_b (strEq_me (bs [])) rfl
  have hn : 0 < l.length := List.length_pos_iff.2 h0
  have w : IntKind.wrap .i64 ((l.length : Int) - 1) = ((l.length - 1 : Nat) : Int) := by rw [wr64_id (by unfold I64; omega)]; omega
  have b0 := byteAt_bs hn
  have b1 := byteAt_bs (show l.length - 1 < l.length by omega)
  have e0 : l[0] = l.headD 0 := by cases l with | nil => exact absurd rfl h0 | cons c r => rfl
  have e1 : l[l.length - 1] = l.getLastD 0 := by rw [← List.getLast_eq_getElem h0, List.getLastD_eq_getLast?, List.getLast?_eq_some_getLast h0]; rfl
  have hv : valL l = (!spC (l.headD 0) && !spC (l.getLastD 0)) := by
    unfold valL; unfold valA at h; rw [h]
    cases l with
    | nil => exact absurd rfl h0
    | cons c r => rfl
  rw [show (⟨#[]⟩ : ByteArray) = bs [] from rfl, strEq_bs, w, toNat_cast, b0, b1, e0, e1, hv]
  simp only [spI, toNat_cast]
  refine br_nd h0 (br_dec (by omega) ⟨u8_b _, br_intro (fun k => br_dec (by omega) ⟨u8_b _, ?_⟩) (fun k => ?_)⟩)
  · unfold spC; rw [k]; rfl
  · unfold spC; rw [k]; rfl
theorem eVal_ok : EntOk Tryd.prog eVal := entC_ok (by
  intro a rows p v news h hp
  split at h <;> simp only [Option.some.injEq, Prod.mk.injEq, reduceCtorEq] at h
  obtain ⟨rfl, rfl, rfl⟩ := h
  exact Val_con (L _) hp)
end Go.Proofs.YteodlmfnkjdhhaaDoor.tk
