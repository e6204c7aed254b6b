/- The document's own texts encoded. -/
import Derived.Test.YtlkinjlbaeigdaaSz9
import Derived.Test.YtlkinjlbaeigdaaRows
import Derived.Test.YtlkinjlbaeigdaaLhfH8
import Derived.Test.YtlkinjlbaeigdaaLhfT8
set_option maxRecDepth 20000
set_option linter.unusedSimpArgs false
set_option linter.unusedVariables false
namespace Go.Proofs.Ytlkinjlbaeigdaa.hf
open Go Go.Ev Go.Sy Go.RowKit Go.Proofs.Ytlkinjlbaeigdaa.gl Go.Proofs.Ytlkinjlbaeigdaa.tk
theorem lb_ex2 (f : List UInt8 → Nat → List Bool) : ∃ g, g = f := ⟨f, rfl⟩
theorem ax_ex (f : Row → Int → Int → Int → List Bool) : ∃ g, g = f := ⟨f, rfl⟩
noncomputable def aX : Row → Int → Int → Int → List Bool := Classical.choose (ax_ex fun r k c n => (bitB (dB r)).take k.toNat ++ bl n.toNat c.toNat)
noncomputable def aN (r : Row) (k c n : Int) : Nat := (bytZ (aX r k c n)).length
noncomputable def aK (r : Row) (k c n : Int) : Int := ((aX r k c n).length : Nat)
noncomputable def aC (r : Row) (k c n : Int) : List Value := bCells (bytZ (aX r k c n))
def IsX (r : Row) (m : Nat) (k : Int) : Prop := ∃ B : List Bool, r = bOwn (bytZ B) ∧ m = (bytZ B).length ∧ k = (B.length : Nat) ∧ B.length ≤ 40000000
noncomputable def eAdd : EntM := (64, fun a r => match a, r with
  | [.pointer (some ⟨0, 0, none⟩), .int .i64 c, .int .i64 n], [⟨[.slice (some ⟨1, 0, none⟩) m 1, .int .i64 k], false, .cells false⟩, r1] =>
    some (IsX r1 m k ∧ 0 ≤ n ∧ n ≤ 30 ∧ 0 ≤ c ∧ c < 4294967296, .tuple #[], 3, [(0, ⟨[.slice (some ⟨2, 0, none⟩) (aN r1 k c n) 1, .int .i64 (aK r1 k c n)], false, .cells false⟩), (2, ⟨aC r1 k c n, false, .cells true⟩)])
  | _, _ => none)
noncomputable def rlE2 (X : List Bool) : List (Nat × Row) := [(0, bsC 1 X), (1, bOwn (bytZ X))]
def pF1 : List Nat := [0, 1, 0, 1, 1]
def pF2 : List Nat := [0, 0, 1, 1, 1]
noncomputable def exX : List UInt8 → Nat → List Bool := Classical.choose (lb_ex2 fun l i => encB (l.take i))
noncomputable def onX : List UInt8 → Nat → List Bool := Classical.choose (lb_ex2 fun l j => encB l ++ List.replicate j true)
noncomputable def paX : List UInt8 → Nat → List Bool := Classical.choose (lb_ex2 fun l _ => padd (encB l))
def slF1 (l : List UInt8) (i : Nat) : List (Nat × Value) := [(0, .string (bs l)), (3, .pointer (some ⟨0, 0, none⟩)), (4, .int .i64 (i : Nat))]
def slF2 (_ : Nat) : List (Nat × Value) := [(3, .pointer (some ⟨0, 0, none⟩))]
noncomputable def wsF1 (l : List UInt8) : List (Gate Unit) := [⟨.exit 0, fun _ => True, fun _ => [(3, .pointer (some ⟨0, 0, none⟩))], fun _ => rlE2 (onX l 0), 2⟩]
noncomputable def wsF2 (l : List UInt8) : List (Gate Unit) := [⟨.exit 2, fun _ => True, fun _ => [(3, .pointer (some ⟨0, 0, none⟩))], fun _ => rlE2 (paX l 0), 2⟩]
noncomputable def specF1 : Sy.Spec := specOf 0 2 31 (fun l : List UInt8 => l.length ≤ 1048576) (fun l => slF1 l 0) (fun l => rlE2 (exX l 0)) wsF1
noncomputable def specF2 : Sy.Spec := specOf 0 2 31 (fun l : List UInt8 => l.length ≤ 1048576) (fun _ => slF2 0) (fun l => rlE2 (onX l 0)) wsF2
noncomputable def mF := mOf [(50, pF1, specF1), (50, pF2, specF2)]
noncomputable def tFe : List EntM := [eK, eAdd]
noncomputable abbrev EtFe : Env := envT Try.prog tFe
theorem F1_round (l : List UInt8) (i : Nat) (Inv : Nat → Prop) (m : Nat → Nat) : mev EtFe noM 60 50 (0 :: pF1) false (codeOf Try.prog 50 (0 :: pF1)) ⟨mkOv (slF1 l i), 31, []⟩ none ⟨mkR (rlE2 (exX l i)), 2⟩ (roundK 0 2 31 Inv m (slF1 l) (fun i => rlE2 (exX l i)) (wsF1 l) i) =
  let z1 := (IntKind.wrap IntKind.i64 (byteAt (bs l) (Int.toNat (↑i : Int)))); let z2 := (Row.mk (bCells (bytZ (exX l i))) false (Ob.cells true)); let z3 := (aC z2
  (↑(List.length (exX l i)) : Int) (cdZ2 z1) (lenI z1)); let z4 := (List.length (Array.toList (ByteArray.data (bs l)))); (br (decide ((↑i : Int) < Int.ofNat z4)) (br (decide
  ((0 : Int) <= (↑i : Int) /\ (↑i : Int) < (↑z4 : Int))) ((((True /\ True) /\ (True /\ (True /\ True)))) /\ ((((True /\ (True /\ (True /\ True))) /\ (((True /\ (True /\
  True)) /\ (Plain (bCells (bytZ (exX l i))) /\ True)) /\ ((Plain z3 /\ True) /\ (IsX z2 (List.length (bytZ (exX l i))) (↑(List.length (exX l i)) : Int) /\ ((0 : Int) <=
  lenI z1 /\ (lenI z1 <= (30 : Int) /\ ((0 : Int) <= cdZ2 z1 /\ cdZ2 z1 < (4294967296 : Int))))))))) /\ (∃ j : Nat, ((Inv j) /\ ((m j < m i) /\ ((bs l = bs l) /\ ((0 = 0) /\
  (((↑j : Int) = IntKind.wrap IntKind.i64 ((↑i : Int) + (1 : Int))) /\ ((0 = 0) /\ ((List.length (bytZ (exX l j)) = aN z2 (↑(List.length (exX l i)) : Int) (cdZ2 z1) (lenI
  z1)) /\ (((↑(List.length (exX l j)) : Int) = aK z2 (↑(List.length (exX l i)) : Int) (cdZ2 z1) (lenI z1)) /\ ((Eq (α := List Value) (bCells (bytZ (exX l j))) z3) /\ ((Plain
  (bCells (bytZ (exX l j)))) /\ True))))))))))))) False) (∃ y : Unit, ((True) /\ ((0 = 0) /\ ((0 = 0) /\ ((List.length (bytZ (onX l 0)) = List.length (bytZ (exX l i))) /\
  (((↑(List.length (onX l 0)) : Int) = (↑(List.length (exX l i)) : Int)) /\ ((Eq (α := List Value) (bCells (bytZ (onX l 0))) (bCells (bytZ (exX l i)))) /\ ((Plain (bCells
  (bytZ (onX l 0)))) /\ True))))))))) := by kernel_rfl
theorem F2_round (l : List UInt8) (j : Nat) (Inv : Nat → Prop) (m : Nat → Nat) : mev EtFe noM 60 50 (0 :: pF2) false (codeOf Try.prog 50 (0 :: pF2)) ⟨mkOv (slF2 j), 31, []⟩ none ⟨mkR (rlE2 (onX l j)), 2⟩ (roundK 0 2 31 Inv m slF2 (fun j => rlE2 (onX l j)) (wsF2 l) j) =
  let z1 := (Row.mk (bCells (bytZ (onX l j))) false (Ob.cells true)); let z2 := (aC z1 (↑(List.length (onX l j)) : Int) (1 : Int) (1 : Int)); (br (Int.tmod (↑(List.length
  (onX l j)) : Int) (8 : Int) != (0 : Int)) ((((True /\ (True /\ (True /\ True))) /\ (((True /\ (True /\ True)) /\ (Plain (bCells (bytZ (onX l j))) /\ True)) /\ ((Plain z2
  /\ True) /\ (IsX z1 (List.length (bytZ (onX l j))) (↑(List.length (onX l j)) : Int) /\ ((0 : Int) <= (1 : Int) /\ ((1 : Int) <= (30 : Int) /\ ((0 : Int) <= (1 : Int) /\ (1
  : Int) < (4294967296 : Int))))))))) /\ (∃ j2 : Nat, ((Inv j2) /\ ((m j2 < m j) /\ ((0 = 0) /\ ((0 = 0) /\ ((List.length (bytZ (onX l j2)) = aN z1 (↑(List.length (onX l j))
  : Int) (1 : Int) (1 : Int)) /\ (((↑(List.length (onX l j2)) : Int) = aK z1 (↑(List.length (onX l j)) : Int) (1 : Int) (1 : Int)) /\ ((Eq (α := List Value) (bCells (bytZ
  (onX l j2))) z2) /\ ((Plain (bCells (bytZ (onX l j2)))) /\ True)))))))))) (∃ y : Unit, ((True) /\ ((0 = 0) /\ ((0 = 0) /\ ((List.length (bytZ (paX l 0)) = List.length
  (bytZ (onX l j))) /\ (((↑(List.length (paX l 0)) : Int) = (↑(List.length (onX l j)) : Int)) /\ ((Eq (α := List Value) (bCells (bytZ (paX l 0))) (bCells (bytZ (onX l j))))
  /\ ((Plain (bCells (bytZ (paX l 0)))) /\ True))))))))) := by kernel_rfl
theorem F_vc (l r : List UInt8) : mcall EtFe mF 60 50 [.string (bs l)] ⟨mkR (nums 0 []), 0⟩ (retIs 0 (slc 0 r.length) [bOwn r]) =
  (∃ g : List UInt8, ((List.length g <= 1048576) /\ ((bs g = bs l) /\ ((0 = 0) /\ (((0 : Int) = (0 : Int)) /\ ((List.length (bytZ (exX g 0)) = 0) /\ (((↑(List.length (exX g
  0)) : Int) = (0 : Int)) /\ ((Eq (α := List Value) (bCells (bytZ (exX g 0))) ([])) /\ (∀ (y : Unit), ((True) → (∃ g2 : List UInt8, ((List.length g2 <= 1048576) /\ ((0 = 0)
  /\ ((0 = 0) /\ ((List.length (bytZ (onX g2 0)) = List.length (bytZ (onX g 0))) /\ (((↑(List.length (onX g2 0)) : Int) = (↑(List.length (onX g 0)) : Int)) /\ ((Eq (α :=
  List Value) (bCells (bytZ (onX g2 0))) (bCells (bytZ (onX g 0)))) /\ ((Plain (bCells (bytZ (onX g2 0)))) /\ (∀ (y2 : Unit), ((True) → ((0 = 0) /\ ((List.length r =
  List.length (bytZ (paX g2 0))) /\ ((Eq (α := List Value) (bCells r) (bCells (bytZ (paX g2 0)))) /\ ((Plain (bCells r)) /\ True)))))))))))))))))))))))) := by kernel_rfl
theorem z_aX : aX = fun r k c n => (bitB (dB r)).take k.toNat ++ bl n.toNat c.toNat := Classical.choose_spec (ax_ex _)
theorem z_exX : exX = fun l i => encB (l.take i) := Classical.choose_spec (lb_ex2 _)
theorem z_onX : onX = fun l j => encB l ++ List.replicate j true := Classical.choose_spec (lb_ex2 _)
theorem z_paX : paX = fun l _ => padd (encB l) := Classical.choose_spec (lb_ex2 _)
theorem dX_mk (B : List Bool) : (bitB (bytZ B)).take B.length = B := by
  rw [z_bytZ]; simp only
  have h := bit_byts _ (padZ B) (Nat.le_refl _)
  have hr : rest (padZ B) = [] := rest_byts _ (by unfold padZ; rw [List.length_append, List.length_replicate]; omega)
  rw [hr, List.append_nil] at h
  rw [h]; unfold padZ; rw [List.take_left]
theorem aX_mk (B : List Bool) (c n : Nat) : aX (bOwn (bytZ B)) (B.length : Nat) (c : Nat) (n : Nat) = B ++ bl n c := by
  rw [z_aX]; simp only
  rw [show dB (bOwn (bytZ B)) = bytZ B from dB_mk _ _ _, Int.toNat_natCast, Int.toNat_natCast, Int.toNat_natCast, dX_mk]
theorem eAdd_ok : EntOk Try.prog eAdd := by
  intro a rows p v n' rl he hp
  simp only [eAdd] at he
  split at he
  · simp only [Option.some.injEq, Prod.mk.injEq] at he
    obtain ⟨rfl, rfl, rfl, rfl⟩ := he
    obtain ⟨⟨B, rfl, rfl, rfl, hB⟩, h1, h2, h3, h4⟩ := hp
    obtain ⟨x, rfl⟩ := Int.eq_ofNat_of_zero_le h1
    obtain ⟨y, rfl⟩ := Int.eq_ofNat_of_zero_le h3
    simp only [aN, aK, aC, aX_mk]
    exact A_con B y x hB (by omega) (by omega)
  · simp at he
theorem tFe_ok : ∀ x ∈ tFe, EntOk Try.prog x := all_cons eK_ok (all_cons eAdd_ok (all_nil))
theorem isX_mk (B : List Bool) (h : B.length ≤ 40000000) : IsX ⟨bCells (bytZ B), false, .cells true⟩ (bytZ B).length (B.length : Nat) := ⟨B, rfl, rfl, rfl, h⟩
theorem aN_mk (B : List Bool) (c n : Nat) : aN ⟨bCells (bytZ B), false, .cells true⟩ (B.length : Nat) (c : Nat) (n : Nat) = (bytZ (B ++ bl n c)).length ∧ aK ⟨bCells (bytZ B), false, .cells true⟩ (B.length : Nat) (c : Nat) (n : Nat) = ((B ++ bl n c).length : Nat) ∧ aC ⟨bCells (bytZ B), false, .cells true⟩ (B.length : Nat) (c : Nat) (n : Nat) = bCells (bytZ (B ++ bl n c)) := by
  have h := aX_mk B c n
  unfold aN aK aC
  rw [show (⟨bCells (bytZ B), false, .cells true⟩ : Row) = bOwn (bytZ B) from rfl, h]
  exact ⟨rfl, rfl, rfl⟩
theorem cdI_natZ (k : Nat) (h : k < 257) : cdI (k : Int) = ((codeN k : Nat) : Int) := by unfold cdI; rw [if_pos (by omega)]; simp
theorem F1_piece : PieceOk EtFe 0 (50, pF1, specF1) := by
  refine piece_loop mixed (calls_envT tFe_ok) (lok_envT _ _) lm_none (n := 60) (by kernel_rfl) (fun _ : List UInt8 => (0 : Nat)) (fun l i => i ≤ l.length) (fun l i => l.length - i) (sl := slF1) (rl := fun l i => rlE2 (exX l i)) (fun l hl => Nat.zero_le _) (fun l i hl hi => ?_)
  refine (F1_round l i _ _).mpr ?_
  have hl : l.length ≤ 1048576 := hl
  have hlen : (bs l).data.toList.length = l.length := bs_len l
  simp only [ofNat_eq, toNat_cast, Nat.zero_add, Nat.add_zero, Nat.mul_one, List.drop_zero, bCells_len, bCells_drop, bCells_take, bCells_app, bCells_one, bCells_plain, List.length_replicate, List.length_append, List.length_take, List.length_drop, List.take_length, and_true, true_and, and_self, decide_true, List.length_nil, List.length_cons, Nat.sub_zero, dB_mk, dB_ro, List.take_zero, hlen, z_cdZ2, z_lenI]
  have hx : (exX l i).length ≤ 30 * 1048576 := by
    rw [z_exX]; simp only
    have := encB_len (l.take i)
    rw [List.length_take] at this; omega
  refine br_if (fun h => br_dec (by omega) ?_) (fun h => ⟨(), ?_⟩)
  · have hi : i < l.length := by omega
    have hc := l[i].toNat_lt
    obtain ⟨z1, z2⟩ := len_bd l[i].toNat (by omega)
    have hcl := code_lt l[i].toNat (by omega)
    have hp : 2 ^ hLen l[i].toNat ≤ 2 ^ 30 := Nat.pow_le_pow_right (by omega) z2
    have ht : l.take (i + 1) = l.take i ++ [l[i]] := by rw [List.take_add_one, List.getElem?_eq_getElem hi]; rfl
    have hcb : encB [l[i]] = cB l[i].toNat := by unfold encB; simp
    have nx : exX l (i + 1) = exX l i ++ bl (hLen l[i].toNat) (codeN l[i].toNat) := by
      rw [z_exX]; simp only; rw [ht, encB_app, hcb]; rfl
    obtain ⟨a1, a2, a3⟩ := aN_mk (exX l i) (codeN l[i].toNat) (hLen l[i].toNat)
    rw [byteAt_bs hi, w_nat _ (by omega), hLenI_nat _ (by omega), cdI_natZ _ (by omega), a1, a2, a3]
    exact ⟨⟨bCells_plain _, isX_mk _ (by omega), by omega, by omega, by omega, by omega⟩, i + 1, by omega, by omega, (w_one _ (by omega)).symm, by rw [nx], by rw [nx], by rw [nx]⟩
  · have : i = l.length := by omega
    subst this
    have e : onX l 0 = exX l l.length := by rw [z_onX, z_exX]; simp only; rw [List.take_length, List.replicate_zero, List.append_nil]
    rw [e]; exact ⟨rfl, rfl, rfl⟩
theorem F2_piece : PieceOk EtFe 0 (50, pF2, specF2) := by
  refine piece_loop mixed (calls_envT tFe_ok) (lok_envT _ _) lm_none (n := 60) (by kernel_rfl) (fun _ : List UInt8 => (0 : Nat)) (fun l j => j ≤ (8 - (encB l).length % 8) % 8) (fun l j => (8 - (encB l).length % 8) % 8 - j) (sl := fun _ => slF2) (rl := fun l j => rlE2 (onX l j)) (fun l hl => Nat.zero_le _) (fun l j hl hi => ?_)
  refine (F2_round l j _ _).mpr ?_
  have hl : l.length ≤ 1048576 := hl
  have he := encB_len l
  have hx : (onX l j).length = (encB l).length + j := by rw [z_onX]; simp only; rw [List.length_append, List.length_replicate]
  have tm : (((onX l j).length : Int)).tmod 8 = (((onX l j).length % 8 : Nat) : Int) := rfl
  simp only [ofNat_eq, toNat_cast, Nat.zero_add, Nat.add_zero, Nat.mul_one, List.drop_zero, bCells_len, bCells_drop, bCells_take, bCells_app, bCells_one, bCells_plain, List.length_replicate, List.length_append, List.length_take, List.length_drop, List.take_length, and_true, true_and, and_self, decide_true, List.length_nil, List.length_cons, Nat.sub_zero, dB_mk, dB_ro, List.take_zero, tm]
  refine br_intro (fun h => ?_) (fun h => ⟨(), ?_⟩)
  · have h : (onX l j).length % 8 ≠ 0 := by intro e; rw [e] at h; simp at h
    have nx : onX l (j + 1) = onX l j ++ bl 1 1 := by
      rw [z_onX]; simp only; rw [List.replicate_succ', List.append_assoc]; rfl
    obtain ⟨a1, a2, a3⟩ := aN_mk (onX l j) 1 1
    rw [show ((1 : Nat) : Int) = 1 from rfl] at a1 a2 a3
    rw [a1, a2, a3]
    exact ⟨⟨bCells_plain _, isX_mk _ (by omega), by omega, by omega, by omega, by omega⟩, j + 1, by omega, by omega, by rw [nx], by rw [nx], by rw [nx]⟩
  · have h : (onX l j).length % 8 = 0 := by simp at h; omega
    have hj : j = (8 - (encB l).length % 8) % 8 := by omega
    have e : paX l 0 = onX l j := by rw [z_paX, z_onX]; simp only; unfold padd; rw [← hj]
    rw [e]; exact ⟨rfl, rfl, rfl⟩
theorem pa_enc (l : List UInt8) : bytZ (paX l 0) = encL l := by
  rw [z_bytZ, z_paX]; simp only
  unfold encL padZ
  rw [show (8 - (padd (encB l)).length % 8) % 8 = 0 by have := padd_len (encB l); omega, List.replicate_zero, List.append_nil]
theorem REn_con (l : List UInt8) (hl : l.length ≤ 1048576) : Con Try.prog 50 [.string (bs l)] [] (slc 0 (encL l).length) [bOwn (encL l)] := by
  refine con_vc (E := EtFe) mixed (calls_envT tFe_ok) (lok_envT _ _) (M := mF) (lm_two F1_piece F2_piece) (F_vc l _) ?_
  simp only [ofNat_eq, toNat_cast, Nat.zero_add, Nat.add_zero, Nat.mul_one, List.drop_zero, bCells_len, bCells_drop, bCells_take, bCells_app, bCells_one, bCells_plain, List.length_replicate, List.length_append, List.length_take, List.length_drop, List.take_length, and_true, true_and, and_self, decide_true, List.length_nil, List.length_cons, Nat.sub_zero, dB_mk, dB_ro, List.take_zero]
  have e0 : exX l 0 = [] := by rw [z_exX]; simp [encB]
  have b0 : bytZ [] = [] := by
    have := bz_len []
    exact List.eq_nil_of_length_eq_zero (by rw [this]; rfl)
  refine ⟨l, hl, rfl, by rw [e0, b0]; rfl, by rw [e0]; rfl, by rw [e0, b0]; rfl, fun _ _ => ⟨l, hl, rfl, rfl, rfl, fun _ _ => ?_⟩⟩
  rw [pa_enc]; exact ⟨rfl, rfl⟩
end Go.Proofs.Ytlkinjlbaeigdaa.hf
