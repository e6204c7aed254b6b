/- How the document's own packer writes a text. -/
import Derived.Test.YtlkinjlbaeigdaaSz9
import Derived.Test.YtlkinjlbaeigdaaRows
import Derived.Test.YtlkinjlbaeigdaaLpkE
import Derived.Test.YtlkinjlbaeigdaaLhfI8
import Derived.Test.YtlkinjlbaeigdaaLrfB
set_option maxRecDepth 20000
set_option linter.unusedSimpArgs false
set_option linter.unusedVariables false
namespace Go.Proofs.Ytlkinjlbaeigdaa.pk
open Go Go.Ev Go.Sy Go.RowKit Go.Proofs.Ytlkinjlbaeigdaa.gl Go.Proofs.Ytlkinjlbaeigdaa.tk Go.Proofs.Ytlkinjlbaeigdaa.hf Go.Proofs.Ytlkinjlbaeigdaa.s3 Go.Proofs.Ytlkinjlbaeigdaa.tb Go.Proofs.Ytlkinjlbaeigdaa.sh
noncomputable def eRPt : EntM := entC 35 fun a r => match a, r with
  | [.slice (some ⟨0, 0, none⟩) n 1, .int .i64 k, .int .u8 t, .int .i64 v], [r0] => some (IsB r0 n ∧ (0 ≤ t ∧ t < 256) ∧ n ≤ 16776000, .slice (some ⟨1, 0, none⟩) (ptN r0 k t v) 1, [⟨ptC r0 k t v, false, .cells true⟩])
  | _, _ => none
noncomputable def eREnc : EntM := entC 50 fun a r => match a, r with
  | [.string s], [] => some ((L s).length ≤ 1048576, .slice (some ⟨0, 0, none⟩) (enN s) 1, [⟨enC s, false, .cells true⟩])
  | _, _ => none
noncomputable def tRz : List EntM := [eLenZ]
noncomputable abbrev EtRz : Env := envT Try.prog tRz
theorem ln_ex (f : List UInt8 → Nat → Nat) : ∃ g, g = f := ⟨f, rfl⟩
noncomputable def szP : List UInt8 → Nat → Nat := Classical.choose (ln_ex fun l i => szN (l.take i))
noncomputable def slRz (l : List UInt8) (i : Nat) : List (Nat × Value) := [(0, .string (bs l)), (3, .int .i64 (szP l i : Nat)), (4, .int .i64 (i : Nat))]
noncomputable def wsRz (l : List UInt8) : List (Gate Unit) := [⟨.exit 0, fun _ => True, fun _ => [(3, .int .i64 (szP l l.length : Nat))], fun _ => [], 0⟩]
noncomputable def specRz : Sy.Spec := specOf 0 0 21 (fun l : List UInt8 => l.length ≤ 1048576) (fun l => slRz l 0) (fun _ => []) wsRz
noncomputable def mRz := mOf [(49, [0, 1, 0, 1, 1], specRz)]
theorem rpn_ex (f : Row → ByteArray → Nat) : ∃ g, g = f := ⟨f, rfl⟩
theorem rpc_ex (f : Row → ByteArray → List Value) : ∃ g, g = f := ⟨f, rfl⟩
noncomputable def rpN : Row → ByteArray → Nat := Classical.choose (rpn_ex fun r s => (dB r ++ txL (L s)).length)
noncomputable def rpC : Row → ByteArray → List Value := Classical.choose (rpc_ex fun r s => bCells (dB r ++ txL (L s)))
noncomputable def eRsz : EntM := entC 49 fun a r => match a, r with
  | [.string s], [] => some ((L s).length ≤ 1048576, .int .i64 (szI s), [])
  | _, _ => none
noncomputable def eRpu : EntM := entC 38 fun a r => match a, r with
  | [.slice (some ⟨0, 0, none⟩) n 1, .string s], [r0] => some (IsB r0 n ∧ n ≤ 12000000 ∧ (L s).length ≤ 1048576, .slice (some ⟨1, 0, none⟩) (rpN r0 s) 1, [⟨rpC r0 s, false, .cells true⟩])
  | _, _ => none
noncomputable def tRp : List EntM := [eRsz, eRPt, eREnc]
noncomputable abbrev EtRp : Env := envT Try.prog tRp
theorem Rz_round (l : List UInt8) (i : Nat) (Inv : Nat → Prop) (m : Nat → Nat) : mev EtRz noM 60 49 (0 :: [0, 1, 0, 1, 1]) false (codeOf Try.prog 49 (0 :: [0, 1, 0, 1, 1])) ⟨mkOv (slRz l i), 21, []⟩ none ⟨mkR [], 0⟩ (roundK 0 0 21 Inv m (slRz l) (fun _ => []) (wsRz l) i) =
  let z1 := (List.length (Array.toList (ByteArray.data (bs l)))); (br (decide ((↑i : Int) < Int.ofNat z1)) (br (decide ((0 : Int) <= (↑i : Int) /\ (↑i : Int) < (↑z1 : Int)))
  ((((True /\ True) /\ (True /\ (True /\ True)))) /\ (∃ j : Nat, ((Inv j) /\ ((m j < m i) /\ ((bs l = bs l) /\ (((↑(szP l j) : Int) = IntKind.wrap IntKind.i64 ((↑(szP l i) :
  Int) + lenI (IntKind.wrap IntKind.i64 (byteAt (bs l) (Int.toNat (↑i : Int)))))) /\ (((↑j : Int) = IntKind.wrap IntKind.i64 ((↑i : Int) + (1 : Int))) /\ True))))))) False)
  (∃ y : Unit, ((True) /\ (((↑(szP l (List.length l)) : Int) = (↑(szP l i) : Int)) /\ True)))) := by kernel_rfl
theorem Rz_vc (l : List UInt8) (v : Int) : mcall EtRz mRz 60 49 [.string (bs l)] ⟨mkR (nums 0 []), 0⟩ (retIs 0 (.int .i64 v) []) =
  (∃ g : List UInt8, ((List.length g <= 1048576) /\ ((bs g = bs l) /\ (((↑(szP g 0) : Int) = (0 : Int)) /\ (((0 : Int) = (0 : Int)) /\ (∀ (y : Unit), ((True) → ((v =
  IntKind.wrap IntKind.i64 (Int.tdiv (IntKind.wrap IntKind.i64 ((↑(szP g (List.length g)) : Int) + (7 : Int))) (8 : Int))) /\ True)))))))) := by kernel_rfl
theorem Rp_vc (b l o : List UInt8) : mcall EtRp noM 60 38 [slc 0 b.length, .string (bs l)] ⟨mkR (nums 0 [bRo b]), 1⟩ (retIs 1 (slc 1 o.length) [bRo b, bOwn o]) =
  let z1 := (Int.ofNat (List.length (Array.toList (ByteArray.data (bs l))))); ((((True /\ True) /\ (True /\ (True /\ List.length (L (bs l)) <= 1048576)))) /\ (br (decide
  (szI (bs l) < Int.ofNat (List.length (Array.toList (ByteArray.data (bs l)))))) (((((0 + List.length b * 1 <= List.length (bCells b) /\ Plain (List.take (List.length b * 1)
  (List.drop 0 (bCells b)))) /\ (True /\ (True /\ (True /\ True)))) /\ ((True /\ True) /\ ((Plain (ptC (Row.mk (List.take (List.length b * 1) (List.drop 0 (bCells b))) true
  (Ob.cells true)) (7 : Int) (128 : Int) (szI (bs l))) /\ True) /\ (IsB (Row.mk (List.take (List.length b * 1) (List.drop 0 (bCells b))) true (Ob.cells true)) (List.length
  b) /\ (((0 : Int) <= (128 : Int) /\ (128 : Int) < (256 : Int)) /\ List.length b <= 16776000)))))) /\ ((((True /\ True) /\ (True /\ ((Plain (enC (bs l)) /\ True) /\
  List.length (L (bs l)) <= 1048576)))) /\ (br (decide (0 + enN (bs l) * 1 <= List.length (enC (bs l)))) (br (allOne (List.take (enN (bs l) * 1) (List.drop 0 (enC (bs l)))))
  (br (decide (ptN (Row.mk (List.take (List.length b * 1) (List.drop 0 (bCells b))) true (Ob.cells true)) (7 : Int) (128 : Int) (szI (bs l)) + enN (bs l) <= 16777216)) (br
  (decide (0 < ptN (Row.mk (List.take (List.length b * 1) (List.drop 0 (bCells b))) true (Ob.cells true)) (7 : Int) (128 : Int) (szI (bs l)) + enN (bs l) ∨ List.length (ptC
  (Row.mk (List.take (List.length b * 1) (List.drop 0 (bCells b))) true (Ob.cells true)) (7 : Int) (128 : Int) (szI (bs l))) = 0)) (br (decide (0 + ptN (Row.mk (List.take
  (List.length b * 1) (List.drop 0 (bCells b))) true (Ob.cells true)) (7 : Int) (128 : Int) (szI (bs l)) * 1 <= List.length (ptC (Row.mk (List.take (List.length b * 1)
  (List.drop 0 (bCells b))) true (Ob.cells true)) (7 : Int) (128 : Int) (szI (bs l))))) ((0 = 0) /\ ((List.length o = ptN (Row.mk (List.take (List.length b * 1) (List.drop 0
  (bCells b))) true (Ob.cells true)) (7 : Int) (128 : Int) (szI (bs l)) + enN (bs l)) /\ ((Eq (α := List Value) (bCells b) (bCells b)) /\ ((Plain (bCells b)) /\ ((Eq (α :=
  List Value) (bCells o) (List.take (ptN (Row.mk (List.take (List.length b * 1) (List.drop 0 (bCells b))) true (Ob.cells true)) (7 : Int) (128 : Int) (szI (bs l)) * 1)
  (List.drop 0 (ptC (Row.mk (List.take (List.length b * 1) (List.drop 0 (bCells b))) true (Ob.cells true)) (7 : Int) (128 : Int) (szI (bs l)))) ++ List.take (enN (bs l) * 1)
  (List.drop 0 (enC (bs l))))) /\ ((Plain (bCells o)) /\ True)))))) False) ((0 = 0) /\ ((List.length o = ptN (Row.mk (List.take (List.length b * 1) (List.drop 0 (bCells b)))
  true (Ob.cells true)) (7 : Int) (128 : Int) (szI (bs l))) /\ ((Eq (α := List Value) (bCells b) (bCells b)) /\ ((Plain (bCells b)) /\ ((Eq (α := List Value) (bCells o) (ptC
  (Row.mk (List.take (List.length b * 1) (List.drop 0 (bCells b))) true (Ob.cells true)) (7 : Int) (128 : Int) (szI (bs l)))) /\ ((Plain (bCells o)) /\ True))))))) False)
  False) False))) (((((0 + List.length b * 1 <= List.length (bCells b) /\ Plain (List.take (List.length b * 1) (List.drop 0 (bCells b)))) /\ (True /\ (True /\ (True /\
  True)))) /\ ((True /\ True) /\ ((Plain (ptC (Row.mk (List.take (List.length b * 1) (List.drop 0 (bCells b))) true (Ob.cells true)) (7 : Int) (0 : Int) z1) /\ True) /\ (IsB
  (Row.mk (List.take (List.length b * 1) (List.drop 0 (bCells b))) true (Ob.cells true)) (List.length b) /\ (((0 : Int) <= (0 : Int) /\ (0 : Int) < (256 : Int)) /\
  List.length b <= 16776000)))))) /\ (br (allOne (List.map (fun b ↦ Value.int IntKind.u8 (↑(UInt8.toNat b) : Int)) (Array.toList (ByteArray.data (bs l))))) (br (decide (ptN
  (Row.mk (List.take (List.length b * 1) (List.drop 0 (bCells b))) true (Ob.cells true)) (7 : Int) (0 : Int) z1 + List.length (Array.toList (ByteArray.data (bs l))) <=
  16777216)) (br (decide (0 < ptN (Row.mk (List.take (List.length b * 1) (List.drop 0 (bCells b))) true (Ob.cells true)) (7 : Int) (0 : Int) z1 + List.length (Array.toList
  (ByteArray.data (bs l))) ∨ List.length (ptC (Row.mk (List.take (List.length b * 1) (List.drop 0 (bCells b))) true (Ob.cells true)) (7 : Int) (0 : Int) z1) = 0)) (br
  (decide (0 + ptN (Row.mk (List.take (List.length b * 1) (List.drop 0 (bCells b))) true (Ob.cells true)) (7 : Int) (0 : Int) z1 * 1 <= List.length (ptC (Row.mk (List.take
  (List.length b * 1) (List.drop 0 (bCells b))) true (Ob.cells true)) (7 : Int) (0 : Int) z1))) ((0 = 0) /\ ((List.length o = ptN (Row.mk (List.take (List.length b * 1)
  (List.drop 0 (bCells b))) true (Ob.cells true)) (7 : Int) (0 : Int) z1 + List.length (Array.toList (ByteArray.data (bs l)))) /\ ((Eq (α := List Value) (bCells b) (bCells
  b)) /\ ((Plain (bCells b)) /\ ((Eq (α := List Value) (bCells o) (List.take (ptN (Row.mk (List.take (List.length b * 1) (List.drop 0 (bCells b))) true (Ob.cells true)) (7 :
  Int) (0 : Int) z1 * 1) (List.drop 0 (ptC (Row.mk (List.take (List.length b * 1) (List.drop 0 (bCells b))) true (Ob.cells true)) (7 : Int) (0 : Int) z1)) ++ List.map (fun b
  ↦ Value.int IntKind.u8 (↑(UInt8.toNat b) : Int)) (Array.toList (ByteArray.data (bs l))))) /\ ((Plain (bCells o)) /\ True)))))) False) ((0 = 0) /\ ((List.length o = ptN
  (Row.mk (List.take (List.length b * 1) (List.drop 0 (bCells b))) true (Ob.cells true)) (7 : Int) (0 : Int) z1) /\ ((Eq (α := List Value) (bCells b) (bCells b)) /\ ((Plain
  (bCells b)) /\ ((Eq (α := List Value) (bCells o) (ptC (Row.mk (List.take (List.length b * 1) (List.drop 0 (bCells b))) true (Ob.cells true)) (7 : Int) (0 : Int) z1)) /\
  ((Plain (bCells o)) /\ True))))))) False) False)))) := by kernel_rfl
theorem z_szP : szP = fun l i => szN (l.take i) := Classical.choose_spec (ln_ex _)
theorem z_rpN : rpN = fun r s => (dB r ++ txL (L s)).length := Classical.choose_spec (rpn_ex _)
theorem z_rpC : rpC = fun r s => bCells (dB r ++ txL (L s)) := Classical.choose_spec (rpc_ex _)
theorem eRPt_ok : EntOk Try.prog eRPt := entC_ok (by
  intro a rows p v news h hp
  split at h <;> simp only [Option.some.injEq, Prod.mk.injEq, reduceCtorEq] at h
  obtain ⟨rfl, rfl, rfl⟩ := h
  obtain ⟨⟨x, rfl, rfl⟩, ⟨h1, h2⟩, hl⟩ := hp
  rename_i k t v
  obtain ⟨m, rfl⟩ : ∃ m : UInt8, t = m.toNat := ⟨UInt8.ofNat t.toNat, by rw [u8_toNat_ofNat (by omega)]; omega⟩
  rw [z_ptN, z_ptC]
  simp only [dB_ro, u8i_nat]
  exact ref_con x _ m _ hl)
theorem eREnc_ok : EntOk Try.prog eREnc := entC_ok (by
  intro a rows p v news h hp
  split at h <;> simp only [Option.some.injEq, Prod.mk.injEq, reduceCtorEq] at h
  obtain ⟨rfl, rfl, rfl⟩ := h
  rw [z_enN, z_enC]
  exact REn_con (L _) hp)
theorem tRz_ok : ∀ x ∈ tRz, EntOk Try.prog x := all_cons eLenZ_ok (all_nil)
theorem Rz_piece : PieceOk EtRz 0 (49, [0, 1, 0, 1, 1], specRz) := by
  refine piece_loop tk.mixed (calls_envT tRz_ok) (lok_envT _ _) lm_none (n := 60) (by kernel_rfl) (fun _ : List UInt8 => (0 : Nat)) (fun l i => i ≤ l.length) (fun l i => l.length - i) (sl := slRz) (rl := fun _ _ => []) (fun l hl => Nat.zero_le _) (fun l i hl hi => ?_)
  refine (Rz_round l i _ _).mpr ?_
  have hl : l.length ≤ 1048576 := hl
  have hlen : (bs l).data.toList.length = l.length := bs_len l
  simp only [ofNat_eq, toNat_cast, Nat.zero_add, Nat.add_zero, Nat.mul_one, List.drop_zero, bCells_len, bCells_drop, bCells_take, bCells_app, bCells_one, bCells_plain, List.length_replicate, List.length_append, List.length_take, List.length_drop, List.take_length, and_true, true_and, and_self, decide_true, List.length_nil, List.length_cons, Nat.sub_zero, dB_mk, dB_ro, List.take_zero, hlen, z_lenI, z_szP]
  refine br_if (fun h => br_dec (by omega) ?_) (fun h => ⟨(), by rw [show i = l.length by omega, List.take_length]⟩)
  have hi : i < l.length := by omega
  have hc := l[i].toNat_lt
  have hb := len_bd l[i].toNat (by omega)
  have h3 := szN_le (l.take i)
  rw [List.length_take] at h3
  have e : szN (l.take (i + 1)) = szN (l.take i) + hLen l[i].toNat := by
    rw [List.take_add_one, List.getElem?_eq_getElem hi, szN_app]; simp [szN]
  rw [byteAt_bs hi, w_nat _ (by omega), hLenI_nat _ (by omega), w_add _ _ (by omega), w_one _ (by omega)]
  exact ⟨i + 1, by omega, by omega, by rw [e], rfl⟩
theorem Rz_con (l : List UInt8) (hl : l.length ≤ 1048576) : Con Try.prog 49 [.string (bs l)] [] (.int .i64 (((szN l + 7) / 8 : Nat) : Int)) [] := by
  refine con_vc (E := EtRz) tk.mixed (calls_envT tRz_ok) (lok_envT _ _) (M := mRz) (lm_one Rz_piece) (Rz_vc l _) ?_
  simp only [ofNat_eq, toNat_cast, Nat.zero_add, Nat.add_zero, Nat.mul_one, List.drop_zero, bCells_len, bCells_drop, bCells_take, bCells_app, bCells_one, bCells_plain, List.length_replicate, List.length_append, List.length_take, List.length_drop, List.take_length, and_true, true_and, and_self, decide_true, List.length_nil, List.length_cons, Nat.sub_zero, dB_mk, dB_ro, List.take_zero, z_szP]
  have hz := szN_le l
  refine ⟨l, hl, rfl, by simp [szN], fun _ _ => ?_⟩
  rw [wr64_id (n := ((szN l : Nat) : Int) + 7) (by unfold I64; omega), Int.tdiv_eq_ediv_of_nonneg (by omega), wr64_id (by unfold I64; omega)]
  omega
theorem eRsz_ok : EntOk Try.prog eRsz := entC_ok (by
  intro a rows p v news h hp
  split at h <;> simp only [Option.some.injEq, Prod.mk.injEq, reduceCtorEq] at h
  obtain ⟨rfl, rfl, rfl⟩ := h
  rename_i s
  have := Rz_con (L s) hp
  rw [z_szI]
  exact this)
theorem tRp_ok : ∀ x ∈ tRp, EntOk Try.prog x := all_cons eRsz_ok (all_cons eRPt_ok (all_cons eREnc_ok (all_nil)))
theorem Rp_con (b l : List UInt8) (hb : b.length ≤ 12000000) (hl : l.length ≤ 1048576) : Con Try.prog 38 [slc 0 b.length, .string (bs l)] [bRo b] (slc 1 (b ++ txL l).length) [bRo b, bOwn (b ++ txL l)] := by
  refine con_vc (E := EtRp) tk.mixed (calls_envT tRp_ok) (lok_envT _ _) (M := noM) lm_none (Rp_vc b l _) ?_
  have hs := szN_le l
  have hn : (szN l + 7) / 8 ≤ 2147483647 := by omega
  have p1 : ∀ b : List UInt8, putOut b 7 128 (((szN l + 7) / 8 : Nat) : Int) = b ++ putB 128 7 ((szN l + 7) / 8) := fun b => by unfold putOut; rw [if_pos (by omega)]; rfl
  have p2 : ∀ b : List UInt8, putOut b 7 0 ((l.length : Nat) : Int) = b ++ putB 0 7 l.length := fun b => by unfold putOut; rw [if_pos (by omega)]; rfl
  have g1 := putB_pos 128 7 ((szN l + 7) / 8)
  have g2 := putB_le 128 7 ((szN l + 7) / 8) hn
  have g3 := putB_pos 0 7 l.length
  have g4 := putB_le 0 7 l.length (by omega)
  have el := encL_le l
  have e1 : (bs l).data.toList = l := rfl
  have e2 : u8i 128 = 128 := by decide
  have e3 : u8i 0 = 0 := by decide
  have e5 : (List.map (fun b : UInt8 => Value.int .u8 (b.toNat : Nat)) l) = bCells l := rfl
  have ib : IsB ⟨bCells b, true, .cells true⟩ b.length := isB_mk _ _ rfl
  have a1 : allOne (bCells l) = true := bCells_one _
  have ed : ∀ (x : Bool) (y : Ob), dB ⟨bCells b, x, y⟩ = b := fun x y => dB_mk _ _ _
  simp only [ofNat_eq, toNat_cast, Nat.zero_add, Nat.add_zero, Nat.mul_one, List.drop_zero, bCells_len, bCells_drop, bCells_take, bCells_app, bCells_one, bCells_plain, List.length_replicate, List.length_append, List.length_take, List.length_drop, List.take_length, and_true, true_and, and_self, decide_true, List.length_nil, List.length_cons, Nat.sub_zero, dB_mk, dB_ro, List.take_zero, z_ptN, z_ptC, z_szI, z_enN, z_enC, L_bs, e1, e2, e3, e5, ed, p1, p2, a1]
  have t1 : (szN l + 7) / 8 < l.length → txL l = putB 128 7 ((szN l + 7) / 8) ++ encL l := fun h => if_pos h
  have t2 : ¬ (szN l + 7) / 8 < l.length → txL l = putB 0 7 l.length ++ l := fun h => if_neg h
  generalize putB 128 7 ((szN l + 7) / 8) = P at *
  generalize putB 0 7 l.length = Q at *
  have tk2 : ∀ x y : List UInt8, List.take (x.length + y.length) (x ++ y) = x ++ y := fun x y => List.take_of_length_le (by rw [List.length_append]; exact Nat.le_refl _)
  have im : b.length ≤ b.length ∧ IsB ⟨bCells b, true, .cells true⟩ b.length := ⟨Nat.le_refl _, ib⟩
  simp only [tk2]
  refine ⟨hl, br_if (fun h => ⟨⟨im.1, im.2, by omega, by omega⟩, hl, br_dec (by omega) (br_b rfl (br_dec (by omega) (br_dec (by omega) (br_dec (by omega) ?_))))⟩) (fun h => ⟨⟨im.1, im.2, by omega, by omega⟩, br_b rfl (br_dec (by omega) (br_dec (by omega) (br_dec (by omega) ?_)))⟩)⟩
  · rw [t1 (by omega), List.length_append, List.append_assoc]; exact ⟨by omega, rfl⟩
  · rw [t2 (by omega), List.length_append, List.append_assoc]; exact ⟨by omega, rfl⟩
end Go.Proofs.Ytlkinjlbaeigdaa.pk
