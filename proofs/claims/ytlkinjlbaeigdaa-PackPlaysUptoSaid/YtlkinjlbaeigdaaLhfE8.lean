/- The document's own codes. -/
import Derived.Test.YtlkinjlbaeigdaaSz9
import Derived.Test.YtlkinjlbaeigdaaRows
import Derived.Test.YtlkinjlbaeigdaaLhfC8
set_option maxRecDepth 20000
set_option linter.unusedSimpArgs false
set_option linter.unusedVariables false
namespace Go.Proofs.Ytlkinjlbaeigdaa.hf
open Go Go.Ev Go.Sy Go.RowKit Go.Proofs.Ytlkinjlbaeigdaa.gl Go.Proofs.Ytlkinjlbaeigdaa.tk
noncomputable def cu (k s : Nat) : Nat := (Classical.choose (f1_ex fun k => [fstN k + used k s]) k).getD 0 0
def pK1 : List Nat := [0, 1, 0, 1, 1, 1, 1]
def pK2 : List Nat := [0, 1, 1, 1, 0, 0, 1, 0, 0, 1, 0, 1, 1, 1, 1]
noncomputable def slK1 (y : Nat) (k : Nat) : List (Nat × Value) := [(0, .int .i64 (y : Nat)), (4, .int .i64 (hLen y : Nat)), (5, .int .i64 (cd k : Nat)), (6, .int .i64 (k : Nat)), (7, .int .i64 ((k + 1 : Nat) : Int))]
noncomputable def slK2 (g : Nat × Nat) (s : Nat) : List (Nat × Value) := [(0, .int .i64 (g.1 : Nat)), (4, .int .i64 (hLen g.1 : Nat)), (5, .int .i64 (cu g.2 s : Nat)), (6, .int .i64 (g.2 : Nat)), (7, .int .i64 (g.2 : Nat)), (8, .int .i64 (s : Nat))]
noncomputable def wsK1 (y : Nat) : List (Gate Unit) := [⟨.ret, fun _ => True, fun _ => [(2, .int .i64 (codeN y : Nat)), (3, .int .i64 (hLen y : Nat))], fun _ => [], 0⟩]
noncomputable def wsK2 (g : Nat × Nat) : List (Gate Unit) := [⟨.exit 2, fun _ => hLen g.1 ≠ g.2, fun _ => [(0, .int .i64 (g.1 : Nat)), (4, .int .i64 (hLen g.1 : Nat)), (5, .int .i64 (cd g.2 : Nat)), (6, .int .i64 (g.2 : Nat)), (7, .int .i64 (g.2 : Nat))], fun _ => [], 0⟩, ⟨.ret, fun _ => hLen g.1 = g.2, fun _ => [(2, .int .i64 (codeN g.1 : Nat)), (3, .int .i64 (hLen g.1 : Nat))], fun _ => [], 0⟩]
noncomputable def specK1 : Sy.Spec := specOf 0 0 39 (fun y : Nat => y < 257) (fun y => slK1 y 0) (fun _ => []) wsK1
noncomputable def specK2 : Sy.Spec := specOf 0 0 39 (fun g : Nat × Nat => g.1 < 257 ∧ 1 ≤ g.2 ∧ g.2 ≤ 30) (fun g => slK2 g 0) (fun _ => []) wsK2
noncomputable def mK2 := mOf [(63, pK2, specK2)]
noncomputable def mK := mOf [(63, pK1, specK1)]
noncomputable def tK : List EntM := [eLenZ]
noncomputable abbrev EtK : Env := envT Try.prog tK
theorem K2_round (g : Nat × Nat) (s : Nat) (Inv : Nat → Prop) (m : Nat → Nat) : mev EtK noM 60 63 (0 :: pK2) false (codeOf Try.prog 63 (0 :: pK2)) ⟨mkOv (slK2 g s), 39, []⟩ none ⟨mkR [], 0⟩ (roundK 0 0 39 Inv m (slK2 g) (fun _ => []) (wsK2 g) s) =
  (br (decide ((↑s : Int) <= (256 : Int))) ((((True /\ True) /\ (True /\ (True /\ True)))) /\ (br (lenI (↑s : Int) != (↑g.2 : Int)) (∃ j : Nat, ((Inv j) /\ ((m j < m s) /\
  (((↑g.1 : Int) = (↑g.1 : Int)) /\ (((↑(hLen g.1) : Int) = (↑(hLen g.1) : Int)) /\ (((↑(cu g.2 j) : Int) = (↑(cu g.2 s) : Int)) /\ (((↑g.2 : Int) = (↑g.2 : Int)) /\ (((↑g.2
  : Int) = (↑g.2 : Int)) /\ (((↑j : Int) = IntKind.wrap IntKind.i64 ((↑s : Int) + (1 : Int))) /\ True))))))))) (br ((↑s : Int) == (↑g.1 : Int)) (∃ y : Unit, ((hLen g.1 =
  g.2) /\ (((↑(codeN g.1) : Int) = (↑(cu g.2 s) : Int)) /\ (((↑(hLen g.1) : Int) = (↑(hLen g.1) : Int)) /\ True)))) (∃ j : Nat, ((Inv j) /\ ((m j < m s) /\ (((↑g.1 : Int) =
  (↑g.1 : Int)) /\ (((↑(hLen g.1) : Int) = (↑(hLen g.1) : Int)) /\ (((↑(cu g.2 j) : Int) = IntKind.wrap IntKind.i64 ((↑(cu g.2 s) : Int) + (1 : Int))) /\ (((↑g.2 : Int) =
  (↑g.2 : Int)) /\ (((↑g.2 : Int) = (↑g.2 : Int)) /\ (((↑j : Int) = IntKind.wrap IntKind.i64 ((↑s : Int) + (1 : Int))) /\ True)))))))))))) (∃ y : Unit, ((hLen g.1 ≠ g.2) /\
  (((↑g.1 : Int) = (↑g.1 : Int)) /\ (((↑(hLen g.1) : Int) = (↑(hLen g.1) : Int)) /\ (((↑(cd g.2) : Int) = (↑(cu g.2 s) : Int)) /\ (((↑g.2 : Int) = (↑g.2 : Int)) /\ (((↑g.2 :
  Int) = (↑g.2 : Int)) /\ True)))))))) := by kernel_rfl
theorem K1_round (y k : Nat) (Inv : Nat → Prop) (m : Nat → Nat) : mev EtK mK2 60 63 (0 :: pK1) false (codeOf Try.prog 63 (0 :: pK1)) ⟨mkOv (slK1 y k), 39, []⟩ none ⟨mkR [], 0⟩ (roundK 0 0 39 Inv m (slK1 y) (fun _ => []) (wsK1 y) k) =
  (br (decide ((↑(k + 1) : Int) <= (↑(hLen y) : Int))) (br (decide ((0 : Int) <= IntKind.wrap IntKind.i64 ((↑(k + 1) : Int) - (↑k : Int)))) (∃ g : Nat × Nat, ((g.1 < 257 /\
  1 <= g.2 /\ g.2 <= 30) /\ (((↑g.1 : Int) = (↑y : Int)) /\ (((↑(hLen g.1) : Int) = (↑(hLen y) : Int)) /\ (((↑(cu g.2 0) : Int) = ishl IntKind.i64 (↑(cd k) : Int)
  (IntKind.wrap IntKind.i64 ((↑(k + 1) : Int) - (↑k : Int)))) /\ (((↑g.2 : Int) = (↑(k + 1) : Int)) /\ (((↑g.2 : Int) = (↑(k + 1) : Int)) /\ (((0 : Int) = (0 : Int)) /\ (∀
  (side : Bool), (br (side) (∀ (y2 : Unit), ((hLen g.1 ≠ g.2) → (∃ j : Nat, ((Inv j) /\ ((m j < m k) /\ (((↑y : Int) = (↑g.1 : Int)) /\ (((↑(hLen y) : Int) = (↑(hLen g.1) :
  Int)) /\ (((↑(cd j) : Int) = (↑(cd g.2) : Int)) /\ (((↑j : Int) = (↑g.2 : Int)) /\ (((↑(j + 1) : Int) = IntKind.wrap IntKind.i64 ((↑g.2 : Int) + (1 : Int))) /\
  True)))))))))) (∀ (y2 : Unit), ((hLen g.1 = g.2) → (∃ y3 : Unit, ((True) /\ (((↑(codeN y) : Int) = (↑(codeN g.1) : Int)) /\ (((↑(hLen y) : Int) = (↑(hLen g.1) : Int)) /\
  True)))))))))))))))) False) False) := by kernel_rfl
theorem K_vc (n a b : Int) : mcall EtK mK 60 63 [.int .i64 n] ⟨mkR (nums 0 []), 0⟩ (retIs 0 (.tuple #[.int .i64 a, .int .i64 b]) []) =
  ((((True /\ True) /\ (True /\ (True /\ True)))) /\ (br (lenI n == (0 : Int)) ((a = (0 : Int)) /\ ((b = (0 : Int)) /\ True)) (∃ g : Nat, ((g < 257) /\ (((↑g : Int) = n) /\
  (((↑(hLen g) : Int) = lenI n) /\ ((Int.ofNat (cd 0) = (0 : Int)) /\ (((0 : Int) = (0 : Int)) /\ (((1 : Int) = (1 : Int)) /\ (∀ (y : Unit), ((True) → ((a = (↑(codeN g) :
  Int)) /\ ((b = (↑(hLen g) : Int)) /\ True))))))))))))) := by kernel_rfl
theorem tK_ok : ∀ x ∈ tK, EntOk Try.prog x := all_cons eLenZ_ok (all_nil)
theorem z_cu (k s : Nat) : cu k s = fstN k + used k s := by
  unfold cu
  have := Classical.choose_spec (f1_ex fun k => [fstN k + used k s])
  rw [this]; rfl
theorem fst_bd : ∀ z : Fin 31, fstN z.1 < 4294967296 := by decide +kernel
theorem K2_piece : PieceOk EtK 0 (63, pK2, specK2) := by
  refine piece_loop mixed (calls_envT tK_ok) (lok_envT _ _) lm_none (n := 60) (by kernel_rfl) (fun _ => (0 : Nat)) (fun g s => s ≤ 257 ∧ (hLen g.1 = g.2 → s ≤ g.1)) (fun g s => 257 - s) (sl := slK2) (rl := fun _ _ => []) (fun g hg => ⟨Nat.zero_le _, fun _ => Nat.zero_le _⟩) (fun g s hg hi => ?_)
  refine (K2_round g s _ _).mpr ?_
  obtain ⟨y, k⟩ := g
  obtain ⟨h1, h2⟩ := hi
  obtain ⟨g1, g2, g3⟩ := hg
  simp only at h1 h2 g1 g2 g3
  simp only [ofNat_eq, toNat_cast, Nat.zero_add, Nat.add_zero, Nat.mul_one, List.drop_zero, bCells_len, bCells_drop, bCells_take, bCells_app, bCells_one, bCells_plain, List.length_replicate, List.length_append, List.length_take, List.length_drop, List.take_length, and_true, true_and, and_self, decide_true, List.length_nil, List.length_cons, Nat.sub_zero, dB_mk, dB_ro, List.take_zero, z_cu, z_lenI, z_cd]
  refine br_if (fun h => ?_) (fun h => ?_)
  · have hs : s < 257 := by omega
    rw [hLenI_nat s hs]
    have hf := fst_bd ⟨k, by omega⟩
    simp only at hf
    have hu := used_le k s
    refine br_intro (fun e => ?_) (fun e => ?_)
    · have e : hLen s ≠ k := by intro e2; rw [e2] at e; simp at e
      have hus : used k (s + 1) = used k s := by rw [used, if_neg e]; rfl
      refine ⟨s + 1, ⟨by omega, fun h3 => ?_⟩, by omega, by rw [hus], (w_one _ (by omega)).symm⟩
      have h4 := h2 h3
      by_cases h5 : s = y
      · subst h5; exact absurd h3 e
      · omega
    · have e : hLen s = k := by
        apply Decidable.byContradiction; intro hx
        have : ¬ ((hLen s : Nat) : Int) = (k : Int) := by omega
        rw [bne_iff_ne.2 this] at e; simp at e
      refine br_intro (fun e2 => ?_) (fun e2 => ?_)
      · have e2 : s = y := by have := eq_of_beq e2; omega
        subst e2
        exact ⟨(), e, by unfold codeN; rw [e]⟩
      · have e2 : s ≠ y := by intro e3; rw [e3] at e2; simp at e2
        have hus : used k (s + 1) = used k s + 1 := by rw [used, if_pos e]
        refine ⟨s + 1, ⟨by omega, fun h3 => by have := h2 h3; omega⟩, by omega, ?_, (w_one _ (by omega)).symm⟩
        rw [hus, w_one _ (by omega)]; rfl
  · have hs : s = 257 := by omega
    subst hs
    have hn : hLen y ≠ k := fun e => by have := h2 e; omega
    have hc : cdN k = fstN k + cntN k := by unfold cdN; rw [if_neg (by omega)]
    rw [cnt_eq k (by omega)]
    exact ⟨(), hn, by rw [hc]⟩
theorem K1_piece : PieceOk EtK 0 (63, pK1, specK1) := by
  refine piece_loop mixed (calls_envT tK_ok) (lok_envT _ _) (lm_one K2_piece) (n := 60) (by kernel_rfl) (fun _ => (0 : Nat)) (fun y k => k < hLen y) (fun y k => 30 - k) (sl := slK1) (rl := fun _ _ => []) (fun y hy => by have := len_bd y hy; omega) (fun y k hg hi => ?_)
  refine (K1_round y k _ _).mpr ?_
  have hg : y < 257 := hg
  have hb := len_bd y hg
  simp only [ofNat_eq, toNat_cast, Nat.zero_add, Nat.add_zero, Nat.mul_one, List.drop_zero, bCells_len, bCells_drop, bCells_take, bCells_app, bCells_one, bCells_plain, List.length_replicate, List.length_append, List.length_take, List.length_drop, List.take_length, and_true, true_and, and_self, decide_true, List.length_nil, List.length_cons, Nat.sub_zero, dB_mk, dB_ro, List.take_zero, z_cu, z_lenI, z_cd]
  obtain ⟨f1, _, f3, _⟩ := fst_in k (by omega)
  have w : IntKind.i64.wrap (((k + 1 : Nat) : Int) - (k : Int)) = ((1 : Nat) : Int) := by rw [wr64_id (by unfold I64; omega)]; omega
  rw [w, ishl_nat (by omega) (by omega)]
  refine br_dec (by omega) (br_dec (by omega) ⟨(y, k + 1), ⟨hg, by simp only; omega, by simp only; omega⟩, rfl, rfl, ?_, rfl, rfl, fun side => br_intro (fun _ => fun _ hne => ?_) (fun _ => fun _ he => ⟨(), rfl, rfl⟩)⟩)
  · simp only [used, Nat.add_zero, Nat.pow_one]; rw [f1]
  · simp only at hne
    exact ⟨k + 1, by omega, by omega, rfl, rfl, rfl, rfl, (w_one _ (by omega)).symm⟩
theorem K_con (n : Int) : Con Try.prog 63 [.int .i64 n] [] (.tuple #[.int .i64 (cdI n), .int .i64 (hLenI n)]) [] := by
  refine con_vc (E := EtK) mixed (calls_envT tK_ok) (lok_envT _ _) (M := mK) (lm_one K1_piece) (K_vc n _ _) ?_
  simp only [ofNat_eq, toNat_cast, Nat.zero_add, Nat.add_zero, Nat.mul_one, List.drop_zero, bCells_len, bCells_drop, bCells_take, bCells_app, bCells_one, bCells_plain, List.length_replicate, List.length_append, List.length_take, List.length_drop, List.take_length, and_true, true_and, and_self, decide_true, List.length_nil, List.length_cons, Nat.sub_zero, dB_mk, dB_ro, List.take_zero, z_cu, z_lenI, z_cd]
  by_cases h : 0 ≤ n ∧ n < 257
  · obtain ⟨y, rfl⟩ : ∃ k : Nat, n = (k : Nat) := ⟨n.toNat, by omega⟩
    have hy : y < 257 := by omega
    have hb := len_bd y hy
    have e1 : cdI (y : Int) = ((codeN y : Nat) : Int) := by unfold cdI; rw [if_pos h]; simp
    rw [hLenI_nat y hy, e1]
    refine br_intro (fun e => ?_) (fun _ => ⟨y, hy, rfl, rfl, by decide, fun _ _ => ⟨rfl, rfl⟩⟩)
    exfalso; have := eq_of_beq e; omega
  · have e1 : cdI n = 0 := by unfold cdI; rw [if_neg h]
    have e2 : hLenI n = 0 := by unfold hLenI; rw [if_neg h]
    rw [e1, e2]
    exact br_b rfl ⟨rfl, rfl⟩
end Go.Proofs.Ytlkinjlbaeigdaa.hf
