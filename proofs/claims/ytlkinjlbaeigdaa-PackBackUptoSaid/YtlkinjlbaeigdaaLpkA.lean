/- How a text is written. -/
import Derived.Test.YtlkinjlbaeigdaaSz9
import Derived.Test.YtlkinjlbaeigdaaRows
import Derived.Test.YtlkinjlbaeigdaaLs38
import Derived.Test.YtlkinjlbaeigdaaLhfC8
set_option maxRecDepth 20000
set_option linter.unusedSimpArgs false
set_option linter.unusedVariables false
namespace Go.Proofs.Ytlkinjlbaeigdaa.pk
open Go Go.Ev Go.Sy Go.RowKit Go.Proofs.Ytlkinjlbaeigdaa.gl Go.Proofs.Ytlkinjlbaeigdaa.tk Go.Proofs.Ytlkinjlbaeigdaa.hf Go.Proofs.Ytlkinjlbaeigdaa.s3
def u8i (m : Int) : UInt8 := UInt8.ofNat m.toNat
theorem pn_ex (f : Row → Int → Int → Int → Nat) : ∃ g, g = f := ⟨f, rfl⟩
theorem pc_ex (f : Row → Int → Int → Int → List Value) : ∃ g, g = f := ⟨f, rfl⟩
theorem bi_ex (f : ByteArray → Int) : ∃ g, g = f := ⟨f, rfl⟩
theorem bn_ex (f : ByteArray → Nat) : ∃ g, g = f := ⟨f, rfl⟩
theorem bc_ex (f : ByteArray → List Value) : ∃ g, g = f := ⟨f, rfl⟩
noncomputable def ptN : Row → Int → Int → Int → Nat := Classical.choose (pn_ex fun r k t v => (putOut (dB r) k (u8i t) v).length)
noncomputable def ptC : Row → Int → Int → Int → List Value := Classical.choose (pc_ex fun r k t v => bCells (putOut (dB r) k (u8i t) v))
noncomputable def szI : ByteArray → Int := Classical.choose (bi_ex fun s => (((szN (L s) + 7) / 8 : Nat) : Int))
noncomputable def enN : ByteArray → Nat := Classical.choose (bn_ex fun s => (encL (L s)).length)
noncomputable def enC : ByteArray → List Value := Classical.choose (bc_ex fun s => bCells (encL (L s)))
noncomputable def ePt : EntM := entC 42 fun a r => match a, r with
  | [.slice (some ⟨0, 0, none⟩) n 1, .int .i64 k, .int .u8 t, .int .i64 v], [r0] => some (IsB r0 n ∧ (0 ≤ t ∧ t < 256) ∧ n ≤ 16776000, .slice (some ⟨1, 0, none⟩) (ptN r0 k t v) 1, [⟨ptC r0 k t v, false, .cells true⟩])
  | _, _ => none
noncomputable def eSzT : EntM := entC 59 fun a r => match a, r with
  | [.string s], [] => some ((L s).length ≤ 1048576, .int .i64 (szI s), [])
  | _, _ => none
noncomputable def eEnT : EntM := entC 60 fun a r => match a, r with
  | [.string s], [] => some ((L s).length ≤ 1048576, .slice (some ⟨0, 0, none⟩) (enN s) 1, [⟨enC s, false, .cells true⟩])
  | _, _ => none
noncomputable def tX : List EntM := [ePt, eSzT, eEnT]
noncomputable abbrev EtX : Env := envT Try.prog tX
def txL (l : List UInt8) : List UInt8 := if (szN l + 7) / 8 < l.length then putB 128 7 ((szN l + 7) / 8) ++ encL l else putB 0 7 l.length ++ l
theorem Tx_vc (l o : List UInt8) : mcall EtX noM 60 45 [.string (bs l)] ⟨mkR (nums 0 []), 0⟩ (retIs 0 (slc 0 o.length) [bOwn o]) =
  ((((True /\ True) /\ (True /\ (True /\ List.length (L (bs l)) <= 1048576)))) /\ (br (decide (szI (bs l) < Int.ofNat (List.length (Array.toList (ByteArray.data (bs l))))))
  ((((True /\ (True /\ (True /\ (True /\ True)))) /\ ((True /\ True) /\ ((Plain (ptC (Row.mk [] true (Ob.cells true)) (7 : Int) (128 : Int) (szI (bs l))) /\ True) /\ (IsB
  (Row.mk [] true (Ob.cells true)) 0 /\ (((0 : Int) <= (128 : Int) /\ (128 : Int) < (256 : Int)) /\ 0 <= 16776000)))))) /\ ((((True /\ True) /\ (True /\ ((Plain (enC (bs l))
  /\ True) /\ List.length (L (bs l)) <= 1048576)))) /\ (br (decide (0 + enN (bs l) * 1 <= List.length (enC (bs l)))) (br (allOne (List.take (enN (bs l) * 1) (List.drop 0
  (enC (bs l))))) (br (decide (ptN (Row.mk [] true (Ob.cells true)) (7 : Int) (128 : Int) (szI (bs l)) + enN (bs l) <= 16777216)) (br (decide (0 < ptN (Row.mk [] true
  (Ob.cells true)) (7 : Int) (128 : Int) (szI (bs l)) + enN (bs l) ∨ List.length (ptC (Row.mk [] true (Ob.cells true)) (7 : Int) (128 : Int) (szI (bs l))) = 0)) (br (decide
  (0 + ptN (Row.mk [] true (Ob.cells true)) (7 : Int) (128 : Int) (szI (bs l)) * 1 <= List.length (ptC (Row.mk [] true (Ob.cells true)) (7 : Int) (128 : Int) (szI (bs l)))))
  ((0 = 0) /\ ((List.length o = ptN (Row.mk [] true (Ob.cells true)) (7 : Int) (128 : Int) (szI (bs l)) + enN (bs l)) /\ ((Eq (α := List Value) (bCells o) (List.take (ptN
  (Row.mk [] true (Ob.cells true)) (7 : Int) (128 : Int) (szI (bs l)) * 1) (List.drop 0 (ptC (Row.mk [] true (Ob.cells true)) (7 : Int) (128 : Int) (szI (bs l)))) ++
  List.take (enN (bs l) * 1) (List.drop 0 (enC (bs l))))) /\ ((Plain (bCells o)) /\ True)))) False) ((0 = 0) /\ ((List.length o = ptN (Row.mk [] true (Ob.cells true)) (7 :
  Int) (128 : Int) (szI (bs l))) /\ ((Eq (α := List Value) (bCells o) (ptC (Row.mk [] true (Ob.cells true)) (7 : Int) (128 : Int) (szI (bs l)))) /\ ((Plain (bCells o)) /\
  True))))) False) False) False))) ((((True /\ (True /\ (True /\ (True /\ True)))) /\ ((True /\ True) /\ ((Plain (ptC (Row.mk [] true (Ob.cells true)) (7 : Int) (0 : Int)
  (Int.ofNat (List.length (Array.toList (ByteArray.data (bs l)))))) /\ True) /\ (IsB (Row.mk [] true (Ob.cells true)) 0 /\ (((0 : Int) <= (0 : Int) /\ (0 : Int) < (256 :
  Int)) /\ 0 <= 16776000)))))) /\ (br (allOne (List.map (fun b ↦ Value.int IntKind.u8 (↑(UInt8.toNat b) : Int)) (Array.toList (ByteArray.data (bs l))))) (br (decide (ptN
  (Row.mk [] true (Ob.cells true)) (7 : Int) (0 : Int) (Int.ofNat (List.length (Array.toList (ByteArray.data (bs l))))) + List.length (Array.toList (ByteArray.data (bs l)))
  <= 16777216)) (br (decide (0 < ptN (Row.mk [] true (Ob.cells true)) (7 : Int) (0 : Int) (Int.ofNat (List.length (Array.toList (ByteArray.data (bs l))))) + List.length
  (Array.toList (ByteArray.data (bs l))) ∨ List.length (ptC (Row.mk [] true (Ob.cells true)) (7 : Int) (0 : Int) (Int.ofNat (List.length (Array.toList (ByteArray.data (bs
  l)))))) = 0)) (br (decide (0 + ptN (Row.mk [] true (Ob.cells true)) (7 : Int) (0 : Int) (Int.ofNat (List.length (Array.toList (ByteArray.data (bs l))))) * 1 <= List.length
  (ptC (Row.mk [] true (Ob.cells true)) (7 : Int) (0 : Int) (Int.ofNat (List.length (Array.toList (ByteArray.data (bs l)))))))) ((0 = 0) /\ ((List.length o = ptN (Row.mk []
  true (Ob.cells true)) (7 : Int) (0 : Int) (Int.ofNat (List.length (Array.toList (ByteArray.data (bs l))))) + List.length (Array.toList (ByteArray.data (bs l)))) /\ ((Eq (α
  := List Value) (bCells o) (List.take (ptN (Row.mk [] true (Ob.cells true)) (7 : Int) (0 : Int) (Int.ofNat (List.length (Array.toList (ByteArray.data (bs l))))) * 1)
  (List.drop 0 (ptC (Row.mk [] true (Ob.cells true)) (7 : Int) (0 : Int) (Int.ofNat (List.length (Array.toList (ByteArray.data (bs l))))))) ++ List.map (fun b ↦ Value.int
  IntKind.u8 (↑(UInt8.toNat b) : Int)) (Array.toList (ByteArray.data (bs l))))) /\ ((Plain (bCells o)) /\ True)))) False) ((0 = 0) /\ ((List.length o = ptN (Row.mk [] true
  (Ob.cells true)) (7 : Int) (0 : Int) (Int.ofNat (List.length (Array.toList (ByteArray.data (bs l)))))) /\ ((Eq (α := List Value) (bCells o) (ptC (Row.mk [] true (Ob.cells
  true)) (7 : Int) (0 : Int) (Int.ofNat (List.length (Array.toList (ByteArray.data (bs l))))))) /\ ((Plain (bCells o)) /\ True))))) False) False)))) := by kernel_rfl
theorem z_ptN : ptN = fun r k t v => (putOut (dB r) k (u8i t) v).length := Classical.choose_spec (pn_ex _)
theorem z_ptC : ptC = fun r k t v => bCells (putOut (dB r) k (u8i t) v) := Classical.choose_spec (pc_ex _)
theorem z_szI : szI = fun s => (((szN (L s) + 7) / 8 : Nat) : Int) := Classical.choose_spec (bi_ex _)
theorem z_enN : enN = fun s => (encL (L s)).length := Classical.choose_spec (bn_ex _)
theorem z_enC : enC = fun s => bCells (encL (L s)) := Classical.choose_spec (bc_ex _)
theorem u8i_nat (b : UInt8) : u8i (b.toNat : Int) = b := by unfold u8i; simp
theorem ePt_ok : EntOk Try.prog ePt := entC_ok (by
  intro a rows p v news h hp
  split at h <;> simp only [Option.some.injEq, Prod.mk.injEq, reduceCtorEq] at h
  obtain ⟨rfl, rfl, rfl⟩ := h
  obtain ⟨⟨x, rfl, rfl⟩, ⟨h1, h2⟩, hl⟩ := hp
  rename_i k t v
  obtain ⟨m, rfl⟩ : ∃ m : UInt8, t = m.toNat := ⟨UInt8.ofNat t.toNat, by rw [u8_toNat_ofNat (by omega)]; omega⟩
  rw [z_ptN, z_ptC]
  simp only [dB_ro, u8i_nat]
  exact put_con x _ m _ hl)
theorem eSzT_ok : EntOk Try.prog eSzT := entC_ok (by
  intro a rows p v news h hp
  split at h <;> simp only [Option.some.injEq, Prod.mk.injEq, reduceCtorEq] at h
  obtain ⟨rfl, rfl, rfl⟩ := h
  rename_i s
  have := Sz_con (L s) (by omega)
  rw [z_szI]
  exact this)
theorem eEnT_ok : EntOk Try.prog eEnT := entC_ok (by
  intro a rows p v news h hp
  split at h <;> simp only [Option.some.injEq, Prod.mk.injEq, reduceCtorEq] at h
  obtain ⟨rfl, rfl, rfl⟩ := h
  rename_i s
  have := En_con (L s) (by omega)
  rw [z_enN, z_enC]
  exact this)
theorem tX_ok : ∀ x ∈ tX, EntOk Try.prog x := all_cons ePt_ok (all_cons eSzT_ok (all_cons eEnT_ok (all_nil)))
theorem put_nil (t : UInt8) (k v : Nat) (h1 : 1 ≤ k) (h2 : k ≤ 8) (h3 : v ≤ 2147483647) : putOut [] (k : Nat) t (v : Nat) = putB t k v := by
  unfold putOut; rw [if_pos (by omega)]; simp
theorem more_le (v : Nat) (h : v ≤ 2147483647) : 1 ≤ (more v).length ∧ (more v).length ≤ 5 := by
  have := loop_len v h
  rw [loop_more, List.length_append]; simp; omega
theorem putB_pos (t : UInt8) (k v : Nat) : 1 ≤ (putB t k v).length := by unfold putB; split <;> simp
theorem putB_le (t : UInt8) (k v : Nat) (h : v ≤ 2147483647) : (putB t k v).length ≤ 6 := by
  unfold putB; split
  · simp
  · have := (more_le (v - (2 ^ k - 1)) (by omega)).2
    rw [List.length_cons]; omega
theorem encL_le (l : List UInt8) : (encL l).length = (szN l + 7) / 8 := by
  have h : (encB l).length = szN l := by
    unfold encB szN; rw [List.length_flatMap]; congr 1
    simp [cB_len]
  unfold Go.Proofs.Ytlkinjlbaeigdaa.hf.encL
  rw [byts_l]
  unfold padd
  rw [List.length_append, List.length_replicate, h]; omega
theorem Tx_con (l : List UInt8) (hl : l.length ≤ 1048576) : Con Try.prog 45 [.string (bs l)] [] (slc 0 (txL l).length) [bOwn (txL l)] := by
  refine con_vc (E := EtX) mixed (calls_envT tX_ok) (lok_envT _ _) (M := noM) lm_none (Tx_vc l _) ?_
  have hs := szN_le l
  have hn : (szN l + 7) / 8 ≤ 2147483647 := by omega
  have p1 : putOut [] 7 128 (((szN l + 7) / 8 : Nat) : Int) = putB 128 7 ((szN l + 7) / 8) := put_nil 128 7 ((szN l + 7) / 8) (by omega) (by omega) hn
  have p2 : putOut [] 7 0 ((l.length : Nat) : Int) = putB 0 7 l.length := put_nil 0 7 l.length (by omega) (by omega) (by omega)
  have g1 := putB_pos 128 7 ((szN l + 7) / 8)
  have g2 := putB_le 128 7 ((szN l + 7) / 8) hn
  have g3 := putB_pos 0 7 l.length
  have g4 := putB_le 0 7 l.length (by omega)
  have el := encL_le l
  have e1 : (bs l).data.toList = l := rfl
  have e2 : u8i 128 = 128 := by decide
  have e3 : u8i 0 = 0 := by decide
  have e4 : dB ⟨[], true, .cells true⟩ = [] := rfl
  have e5 : (List.map (fun b : UInt8 => Value.int .u8 (b.toNat : Nat)) l) = bCells l := rfl
  have ib : IsB ⟨[], true, .cells true⟩ 0 := ⟨[], rfl, rfl⟩
  have a1 : allOne (bCells l) = true := bCells_one _
  simp only [ofNat_eq, toNat_cast, Nat.zero_add, Nat.add_zero, Nat.mul_one, List.drop_zero, bCells_len, bCells_drop, bCells_take, bCells_app, bCells_one, bCells_plain, List.length_replicate, List.length_append, List.length_take, List.length_drop, List.take_length, and_true, true_and, and_self, decide_true, List.length_nil, List.length_cons, Nat.sub_zero, dB_mk, dB_ro, List.take_zero, z_ptN, z_ptC, z_szI, z_enN, z_enC, L_bs, e1, e2, e3, e4, e5, p1, p2, a1]
  have t1 : (szN l + 7) / 8 < l.length → txL l = putB 128 7 ((szN l + 7) / 8) ++ encL l := fun h => if_pos h
  have t2 : ¬ (szN l + 7) / 8 < l.length → txL l = putB 0 7 l.length ++ l := fun h => if_neg h
  generalize putB 128 7 ((szN l + 7) / 8) = P at *
  generalize putB 0 7 l.length = Q at *
  refine ⟨hl, br_if (fun h => ⟨⟨ib, by omega, by omega⟩, hl, br_dec (by omega) (br_b rfl (br_dec (by omega) (br_dec (by omega) (br_dec (by omega) ⟨?_, ?_⟩))))⟩) (fun h => ⟨⟨ib, by omega, by omega⟩, br_b rfl (br_dec (by omega) (br_dec (by omega) (br_dec (by omega) ⟨?_, ?_⟩)))⟩)⟩
  · rw [t1 (by omega), List.length_append]
  · rw [t1 (by omega)]
  · rw [t2 (by omega), List.length_append]
  · rw [t2 (by omega)]
end Go.Proofs.Ytlkinjlbaeigdaa.pk
