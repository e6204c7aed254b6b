/- The document's own book of the code, made: rounds with the length as a literal. -/
import Derived.Test.YtellbmbklfbbfaaSz9
import Derived.Test.YtellbmbklfbbfaaRows
import Derived.Test.YtellbmbklfbbfaaLhfM
set_option maxRecDepth 20000
set_option linter.unusedSimpArgs false
set_option linter.unusedVariables false
namespace Go.Proofs.Ytellbmbklfbbfaa.md
open Go Go.Ev Go.Sy Go.RowKit Go.Proofs.Ytellbmbklfbbfaa.gl Go.Proofs.Ytellbmbklfbbfaa.tk Go.Proofs.Ytellbmbklfbbfaa.hf
theorem sl_ex {α : Type} (f : α) : ∃ g : α, g = f := ⟨f, rfl⟩
noncomputable def sealV {α : Type} (f : α) : α := Classical.choose (sl_ex f)
theorem sealV_eq {α : Type} (f : α) : sealV f = f := Classical.choose_spec (sl_ex f)
def pMi : List Nat := [0, 1, 1, 1, 0, 0, 1, 0, 0, 1, 0, 1, 1, 1]
abbrev E0 (n : Int) : Prop := n = n
def E1 (l : List Int) (p : Prop) : Prop := l.foldr (fun n q => n = n ∧ q) p
def stM (K : Nat) : Nat := bif Nat.ble K 30 then stN K else 257
def syL (K j : Nat) : List Nat := ordL.take (stM K) ++ ((List.range j).filter fun s => decide (hLen s = K))
noncomputable def syZ : Nat → Nat → List Nat := sealV syL
noncomputable def usZ : Nat → Nat → Nat := sealV used
def zeros : List Value := List.replicate 93 (.int .i64 0)
def fstC (K : Nat) : List Value := (List.range 31).map fun i => .int .i64 (bif Nat.ble i K && Nat.ble 1 i then ((fstN i : Nat) : Int) else 0)
def manC (K : Nat) (m : Int) : List Value := (List.range 31).map fun i => .int .i64 (bif Nat.blt i K && Nat.ble 1 i then ((cntN i : Nat) : Int) else bif Nat.beq i K then m else 0)
def frmC (K : Nat) : List Value := (List.range 31).map fun i => .int .i64 (bif Nat.ble i K && Nat.ble 1 i then ((stN i : Nat) : Int) else 0)
def rwM (K : Nat) (m : Int) (n : Nat) : Row := ⟨fstC K ++ manC K m ++ frmC K ++ [.slice (some ⟨2, 0, none⟩) n 1], false, .cells false⟩
def rw0 : Row := ⟨zeros ++ [.slice none 0 0], false, .cells false⟩
def lsK (K : Nat) (u : Int) (n : Nat) : List Value := fstC K ++ manC K u ++ frmC K ++ [.slice (some ⟨4, 0, none⟩) n 1]
def fI (K i : Nat) : Int := bif Nat.ble i K && Nat.ble 1 i then ((fstN i : Nat) : Int) else 0
def cI (i : Nat) : Int := bif Nat.ble 1 i then ((cntN i : Nat) : Int) else 0
def tI (K i : Nat) : Int := bif Nat.ble i K && Nat.ble 1 i then ((stN i : Nat) : Int) else 0
def ahL (K : Nat) : List Int := List.replicate 93 0 ++ (List.range 31).map (fI K) ++ (List.range K).map cI
def beL (K : Nat) : List Int := List.replicate (30 - K) 0 ++ (List.range 31).map (tI K)
noncomputable def slM (K : Nat) (j : Nat) : List (Nat × Value) := [(0, .pointer (some ⟨0, 0, none⟩)), (1, .pointer (some ⟨1, 0, none⟩)), (2, .int .i64 ((fstN K : Nat) + (usZ K j : Nat))), (3, .int .i64 (K : Nat)), (4, .int .i64 (j : Nat))]
noncomputable def rlM (K : Nat) (j : Nat) : List (Nat × Row) := [(0, rw0), (1, rwM K (usZ K j : Nat) (syZ K j).length), (2, ⟨nC (syZ K j), false, .cells true⟩)]
noncomputable def slE (K : Nat) : List (Nat × Value) := [(0, .pointer (some ⟨0, 0, none⟩)), (1, .pointer (some ⟨1, 0, none⟩)), (2, .int .i64 ((fstN K + cntN K : Nat) : Int)), (3, .int .i64 (K : Nat))]
noncomputable def rlE (K : Nat) : List (Nat × Row) := [(0, rw0), (1, rwM K (cntN K : Nat) (stM (K + 1))), (2, ⟨nC (syZ (K + 1) 0), false, .cells true⟩)]
noncomputable def wsM (K : Nat) : List (Gate Unit) := [⟨.exit 2, fun _ => True, fun _ => slE K, fun _ => rlE K, 3⟩]
noncomputable def specK (K : Nat) : Sy.Spec := specOf 0 3 45 (fun _ : Unit => True) (fun _ => slM K 0) (fun _ => rlM K 0) (fun _ => wsM K)
noncomputable def tM : List EntM := [eLen]
noncomputable abbrev EtM : Env := envT Try.prog tM
set_option maxHeartbeats 4000000
theorem E1_eq (p : Prop) : ∀ l : List Int, E1 l p = p
  | [] => rfl
  | n :: l => by
    show (n = n ∧ E1 l p) = p
    rw [E1_eq p l]; simp
theorem z_sy (K j : Nat) : syZ K j = syL K j := by unfold syZ; rw [sealV_eq]
theorem z_us (K j : Nat) : usZ K j = used K j := by unfold usZ; rw [sealV_eq]
theorem tM_ok : ∀ x ∈ tM, EntOk Try.prog x := all_cons eLen_ok (all_nil)
noncomputable def ml (K j : Nat) (Inv : Nat → Prop) (m : Nat → Nat) : Prop := mev EtM noM 60 53 (0 :: pMi) false (codeOf Try.prog 53 (0 :: pMi)) ⟨mkOv (slM K j), 45, []⟩ none ⟨mkR (rlM K j), 3⟩ (roundK 0 3 45 Inv m (slM K) (rlM K) (wsM K) j)
noncomputable def cnd (K j : Nat) (Inv : Nat → Prop) (m : Nat → Nat) : Prop :=
  br (decide ((j : Int) ≤ 256)) (((True ∧ True) ∧ (True ∧ (True ∧ True))) ∧ (br (hLenI (j : Int) == (K : Int)) (br (decide (List.length (syZ K j) + 1 ≤
  16777216)) (br (decide (0 + List.length (syZ K j) * 1 ≤ List.length (nC (syZ K j)))) ((some (Value.int .i64 (usZ K j : Nat)) = some
  (Value.int .i64 (cellI (lsK K (usZ K j : Nat) (List.length (syZ K j) + 1)) (31 + K)))) ∧ (∃ j2 : Nat, (Inv j2 ∧ (m j2 < m j ∧ ((0 = 0) ∧ ((0 = 0) ∧
  ((((fstN K : Nat) : Int) + (usZ K j2 : Nat) = IntKind.i64.wrap (((fstN K : Nat) : Int) + (usZ K j : Nat) + 1)) ∧ (E0 K ∧ (((j2 : Int) = IntKind.i64.wrap
  ((j : Int) + 1)) ∧ (E1 (ahL K) ((((usZ K j2 : Nat) : Int) = IntKind.i64.wrap (cellI (lsK K (usZ K j : Nat) (List.length (syZ K j) + 1)) (31 + K) + 1)) ∧ (E1 (beL K)
  ((0 = 0) ∧ ((List.length (syZ K j2) = List.length (syZ K j) + 1) ∧ ((nC (syZ K j2) = List.take (List.length (syZ K j) * 1) (List.drop 0 (nC (syZ K j))) ++ [Value.int .i64 (j : Int)]) ∧ (Plain
  (nC (syZ K j2)) ∧ True)))))))))))))))) False) False) (∃ j2 : Nat, (Inv j2 ∧ (m j2 < m j ∧ ((0 = 0) ∧ ((0 = 0) ∧ ((((fstN K : Nat) : Int) + (usZ K j2 : Nat) =
  ((fstN K : Nat) : Int) + (usZ K j : Nat)) ∧ (E0 K ∧ (((j2 : Int) = IntKind.i64.wrap ((j : Int) + 1)) ∧ (E1 (ahL K) ((((usZ K j2 : Nat) : Int) = ((usZ K j : Nat) : Int)) ∧ (E1 (beL K)
  ((0 = 0) ∧ ((List.length (syZ K j2) = List.length (syZ K j)) ∧
  ((nC (syZ K j2) = nC (syZ K j)) ∧ (Plain (nC (syZ K j2)) ∧ True))))))))))))))))) (∃ y : Unit, (True ∧ ((0 = 0) ∧ ((0 = 0) ∧ ((((fstN K + cntN K : Nat) : Int) = ((fstN K : Nat) : Int) + (usZ K j : Nat)) ∧
  (E1 (((K : Nat) : Int) :: ahL K) ((((cntN K : Nat) : Int) = ((usZ K j : Nat) : Int)) ∧ (E1 (beL K) ((0 = 0) ∧ ((stM (K + 1) = List.length (syZ K j)) ∧ ((nC (syZ (K + 1) 0) = nC (syZ K j)) ∧ (Plain (nC (syZ (K + 1) 0)) ∧
  True))))))))))))
theorem M1_round (j : Nat) (Inv : Nat → Prop) (m : Nat → Nat) : ml 1 j Inv m = cnd 1 j Inv m := by kernel_rfl
theorem M2_round (j : Nat) (Inv : Nat → Prop) (m : Nat → Nat) : ml 2 j Inv m = cnd 2 j Inv m := by kernel_rfl
theorem M3_round (j : Nat) (Inv : Nat → Prop) (m : Nat → Nat) : ml 3 j Inv m = cnd 3 j Inv m := by kernel_rfl
theorem M4_round (j : Nat) (Inv : Nat → Prop) (m : Nat → Nat) : ml 4 j Inv m = cnd 4 j Inv m := by kernel_rfl
theorem M5_round (j : Nat) (Inv : Nat → Prop) (m : Nat → Nat) : ml 5 j Inv m = cnd 5 j Inv m := by kernel_rfl
theorem M6_round (j : Nat) (Inv : Nat → Prop) (m : Nat → Nat) : ml 6 j Inv m = cnd 6 j Inv m := by kernel_rfl
theorem M7_round (j : Nat) (Inv : Nat → Prop) (m : Nat → Nat) : ml 7 j Inv m = cnd 7 j Inv m := by kernel_rfl
theorem M8_round (j : Nat) (Inv : Nat → Prop) (m : Nat → Nat) : ml 8 j Inv m = cnd 8 j Inv m := by kernel_rfl
theorem M9_round (j : Nat) (Inv : Nat → Prop) (m : Nat → Nat) : ml 9 j Inv m = cnd 9 j Inv m := by kernel_rfl
theorem M10_round (j : Nat) (Inv : Nat → Prop) (m : Nat → Nat) : ml 10 j Inv m = cnd 10 j Inv m := by kernel_rfl
theorem M11_round (j : Nat) (Inv : Nat → Prop) (m : Nat → Nat) : ml 11 j Inv m = cnd 11 j Inv m := by kernel_rfl
theorem M12_round (j : Nat) (Inv : Nat → Prop) (m : Nat → Nat) : ml 12 j Inv m = cnd 12 j Inv m := by kernel_rfl
theorem M13_round (j : Nat) (Inv : Nat → Prop) (m : Nat → Nat) : ml 13 j Inv m = cnd 13 j Inv m := by kernel_rfl
theorem M14_round (j : Nat) (Inv : Nat → Prop) (m : Nat → Nat) : ml 14 j Inv m = cnd 14 j Inv m := by kernel_rfl
theorem M15_round (j : Nat) (Inv : Nat → Prop) (m : Nat → Nat) : ml 15 j Inv m = cnd 15 j Inv m := by kernel_rfl
theorem M16_round (j : Nat) (Inv : Nat → Prop) (m : Nat → Nat) : ml 16 j Inv m = cnd 16 j Inv m := by kernel_rfl
theorem M17_round (j : Nat) (Inv : Nat → Prop) (m : Nat → Nat) : ml 17 j Inv m = cnd 17 j Inv m := by kernel_rfl
theorem M18_round (j : Nat) (Inv : Nat → Prop) (m : Nat → Nat) : ml 18 j Inv m = cnd 18 j Inv m := by kernel_rfl
theorem M19_round (j : Nat) (Inv : Nat → Prop) (m : Nat → Nat) : ml 19 j Inv m = cnd 19 j Inv m := by kernel_rfl
theorem M20_round (j : Nat) (Inv : Nat → Prop) (m : Nat → Nat) : ml 20 j Inv m = cnd 20 j Inv m := by kernel_rfl
theorem M21_round (j : Nat) (Inv : Nat → Prop) (m : Nat → Nat) : ml 21 j Inv m = cnd 21 j Inv m := by kernel_rfl
theorem M22_round (j : Nat) (Inv : Nat → Prop) (m : Nat → Nat) : ml 22 j Inv m = cnd 22 j Inv m := by kernel_rfl
theorem M23_round (j : Nat) (Inv : Nat → Prop) (m : Nat → Nat) : ml 23 j Inv m = cnd 23 j Inv m := by kernel_rfl
theorem M24_round (j : Nat) (Inv : Nat → Prop) (m : Nat → Nat) : ml 24 j Inv m = cnd 24 j Inv m := by kernel_rfl
theorem M25_round (j : Nat) (Inv : Nat → Prop) (m : Nat → Nat) : ml 25 j Inv m = cnd 25 j Inv m := by kernel_rfl
theorem M26_round (j : Nat) (Inv : Nat → Prop) (m : Nat → Nat) : ml 26 j Inv m = cnd 26 j Inv m := by kernel_rfl
theorem M27_round (j : Nat) (Inv : Nat → Prop) (m : Nat → Nat) : ml 27 j Inv m = cnd 27 j Inv m := by kernel_rfl
theorem M28_round (j : Nat) (Inv : Nat → Prop) (m : Nat → Nat) : ml 28 j Inv m = cnd 28 j Inv m := by kernel_rfl
theorem M29_round (j : Nat) (Inv : Nat → Prop) (m : Nat → Nat) : ml 29 j Inv m = cnd 29 j Inv m := by kernel_rfl
theorem M30_round (j : Nat) (Inv : Nat → Prop) (m : Nat → Nat) : ml 30 j Inv m = cnd 30 j Inv m := by kernel_rfl
theorem us_le (K : Nat) : ∀ j, used K j ≤ j
  | 0 => Nat.le_refl _
  | j + 1 => by have := us_le K j; unfold used; split <;> omega
theorem us_suc (K j : Nat) : usZ K (j + 1) = usZ K j + if hLen j = K then 1 else 0 := by rw [z_us, z_us]; rfl
theorem sy_suc (K j : Nat) : syZ K (j + 1) = syZ K j ++ if hLen j = K then [j] else [] := by
  rw [z_sy, z_sy]; unfold syL
  rw [List.range_succ, List.filter_append, List.append_assoc]
  by_cases h : hLen j = K
  · simp [h]
  · simp [h]
theorem sy_len (K : Nat) : ∀ j, (syZ K j).length = (syZ K 0).length + usZ K j
  | 0 => by rw [z_us]; rfl
  | j + 1 => by rw [sy_suc, us_suc, List.length_append, sy_len K j]; split <;> simp <;> omega
theorem hI (j : Nat) (h : j < 257) : hLenI (j : Nat) = ((hLen j : Nat) : Int) := by unfold hLenI; rw [if_pos (by omega)]; simp
theorem end_all : ∀ K : Fin 31, used K.1 257 = cntN K.1 ∧ (syL K.1 0).length = stM K.1 ∧ stM K.1 ≤ 257 ∧ (1 ≤ K.1 → syL K.1 257 = syL (K.1 + 1) 0) ∧ stM K.1 + cntN K.1 = stM (K.1 + 1) ∧ fstN K.1 < 4294967296 := by decide +kernel
theorem ls_cell (K : Nat) (h1 : 1 ≤ K) (h : K ≤ 30) (u : Int) (n : Nat) : cellI (lsK K u n) (31 + K) = u := by
  have fl : (fstC K).length = 31 := by unfold fstC; simp
  have ml : (manC K u).length = 31 := by unfold manC; simp
  have e : (lsK K u n)[31 + K]? = some (.int .i64 u) := by
    unfold lsK
    rw [List.getElem?_append_left (by simp [fl, ml, frmC]; omega), List.getElem?_append_left (by simp [fl, ml]; omega), List.getElem?_append_right (by omega), fl, show 31 + K - 31 = K by omega]
    unfold manC
    rw [List.getElem?_map, List.getElem?_range (by omega)]
    have b1 : Nat.blt K K = false := by unfold Nat.blt; rw [← Bool.not_eq_true, Nat.ble_eq]; omega
    have b2 : Nat.beq K K = true := Nat.beq_refl K
    simp [b1, b2]
  unfold cellI; rw [e]
theorem M_piece (K : Nat) (k1 : 1 ≤ K) (k2 : K ≤ 30) (hv : ∀ j Inv m, ml K j Inv m = cnd K j Inv m) : PieceOk EtM 0 (53, pMi, specK K) := by
  refine piece_loop tk.mixed (calls_envT tM_ok) (lok_envT _ _) lm_none (n := 60) (by kernel_rfl) (fun _ : Unit => 0) (fun _ j => j ≤ 257) (fun _ j => 257 - j) (sl := fun _ j => slM K j) (rl := fun _ j => rlM K j) (fun g hg => Nat.zero_le _) (fun g j hg hi => ?_)
  refine (hv j _ _).mpr ?_
  unfold cnd
  have hu := us_le K j
  rw [← z_us] at hu
  obtain ⟨a1, a2, a3, a4, a5, a6⟩ := end_all ⟨K, by omega⟩
  simp only at a1 a2 a3 a4 a5 a6
  have h0 : (syZ K 0).length = stM K := by rw [z_sy]; exact a2
  have hs := sy_len K j
  have pn := fun l => nC_plain l
  simp only [ofNat_eq, toNat_cast, Nat.zero_add, Nat.add_zero, Nat.mul_one, List.drop_zero, bCells_len, bCells_drop, bCells_take, bCells_app, bCells_one, bCells_plain, List.length_replicate, List.length_append, List.length_take, List.length_drop, List.take_length, and_true, true_and, and_self, decide_true, List.length_nil, List.length_cons, Nat.sub_zero, dB_mk, dB_ro, List.take_zero, nC_len, pn, E0, E1_eq, ls_cell K k1 k2]
  refine br_if (fun h => ?_) (fun h => ?_)
  · have hj : j < 257 := by omega
    have w1 : IntKind.i64.wrap ((j : Int) + 1) = ((j + 1 : Nat) : Int) := by rw [wr64_id (by unfold I64; omega)]; omega
    have e1 := us_suc K j
    have e2 := sy_suc K j
    rw [hI j hj]
    by_cases q : hLen j = K
    · rw [if_pos q] at e1 e2
      have wu : ((usZ K (j + 1) : Nat) : Int) = IntKind.i64.wrap ((usZ K j : Nat) + 1) := by rw [e1, wr64_id (by unfold I64; omega)]; omega
      refine br_b (by simp [q]) (br_dec (by omega) (br_dec (by omega) ⟨j + 1, by omega, by omega, ?_, w1.symm, wu, by rw [e2, List.length_append]; rfl, ?_⟩))
      · rw [e1, wr64_id (by unfold I64; omega)]; omega
      · rw [e2, List.take_of_length_le (by rw [nC_len]; exact Nat.le_refl _)]; unfold nC; rw [List.map_append]; rfl
    · rw [if_neg q] at e1 e2
      exact br_nb (by simp; omega) ⟨j + 1, by omega, by omega, by rw [e1]; rfl, w1.symm, by rw [e1]; rfl, by rw [e2, List.append_nil], by rw [e2, List.append_nil]⟩
  · have : j = 257 := by omega
    subst this
    have u : usZ K 257 = cntN K := by rw [z_us]; exact a1
    have v : syZ K 257 = syZ (K + 1) 0 := by rw [z_sy, z_sy]; exact a4 k1
    exact ⟨(), by rw [u]; omega, by rw [u], by rw [hs, h0, u]; omega, by rw [v]⟩
end Go.Proofs.Ytellbmbklfbbfaa.md
