/- The law: codes and texts encoded, as the document says. -/
import Derived.Test.YtbpeollodpjicaaSz9
import Derived.Test.YtbpeollodpjicaaRows
import Derived.Test.YtbpeollodpjicaaLhfR
import Derived.Test.YtbpeollodpjicaaLhfI
set_option maxRecDepth 20000
set_option linter.unusedSimpArgs false
set_option linter.unusedVariables false
namespace Go.Proofs.Ytbpeollodpjicaa.hf
open Go Go.Ev Go.Sy Go.RowKit Go.Proofs.Ytbpeollodpjicaa.gl Go.Proofs.Ytbpeollodpjicaa.tk
noncomputable def eREn : EntM := entC 17 fun a r => match a, r with
  | [.string s], [] => some ((L s).length ≤ 1048576, .slice (some ⟨0, 0, none⟩) (enN s) 1, [⟨enC s, false, .cells true⟩])
  | _, _ => none
noncomputable def eRunsHT : EntM := entC 3 fun a r => match a, r with
  | [], [] => some (True, .bool true, [])
  | _, _ => none
noncomputable def tHt : List EntM := [eCode, eK, eSize, eEnc, eREn, eSame, eRunsHT]
noncomputable abbrev EtHt : Env := envT Try.prog tHt
theorem Te_vc (n : Int) (s : List UInt8) : mcall EtHt noM 60 4 [.int .i64 n, .string (bs s)] ⟨mkR (nums 0 []), 0⟩ (retIs 0 (.bool true) []) =
  (br (decide (Int.ofNat (List.length (Array.toList (ByteArray.data (bs s)))) > (60 : Int)))
   (br (decide ((0 : Int) ≤ (↑(0 : Nat) : Int) ∧ (↑(0 : Nat) : Int) ≤ (60 : Int) ∧ (60 : Int) ≤ (↑(List.length (Array.toList (ByteArray.data (bs s)))) : Int)))
    ((((True ∧ True) ∧ (True ∧ (True ∧ True)))) ∧
    ((((True ∧ True) ∧ (True ∧ (True ∧ True)))) ∧
    ((((True ∧ True) ∧ (True ∧ ((Plain (enC (sub (bs s) (0 : Nat) (60 : Nat))) ∧ True) ∧ List.length (L (sub (bs s) (0 : Nat) (60 : Nat))) ≤ (1048576 : Nat))))) ∧
    (br (cdZ n == cdZ2 n)
     (br (lenI n == lenI n)
      ((((True ∧ True) ∧ (True ∧ ((Plain (enC (sub (bs s) (0 : Nat) (60 : Nat))) ∧ True) ∧ List.length (L (sub (bs s) (0 : Nat) (60 : Nat))) ≤ (1048576 : Nat))))) ∧
      ((((((0 : Nat) + enN (sub (bs s) (0 : Nat) (60 : Nat)) * (1 : Nat) ≤ List.length (enC (sub (bs s) (0 : Nat) (60 : Nat))) ∧ Plain (List.take (enN (sub (bs s) (0 : Nat) (60 : Nat)) * (1 : Nat)) (List.drop (0 : Nat) (enC (sub (bs s) (0 : Nat) (60 : Nat)))))) ∧ (((0 : Nat) + enN (sub (bs s) (0 : Nat) (60 : Nat)) * (1 : Nat) ≤ List.length (enC (sub (bs s) (0 : Nat) (60 : Nat))) ∧ Plain (List.take (enN (sub (bs s) (0 : Nat) (60 : Nat)) * (1 : Nat)) (List.drop (0 : Nat) (enC (sub (bs s) (0 : Nat) (60 : Nat)))))) ∧ True)) ∧ ((True ∧ (True ∧ True)) ∧ (True ∧ (IsB (Row.mk (List.take (enN (sub (bs s) (0 : Nat) (60 : Nat)) * (1 : Nat)) (List.drop (0 : Nat) (enC (sub (bs s) (0 : Nat) (60 : Nat))))) true (Ob.cells true)) (enN (sub (bs s) (0 : Nat) (60 : Nat))) ∧ (IsB (Row.mk (List.take (enN (sub (bs s) (0 : Nat) (60 : Nat)) * (1 : Nat)) (List.drop (0 : Nat) (enC (sub (bs s) (0 : Nat) (60 : Nat))))) true (Ob.cells true)) (enN (sub (bs s) (0 : Nat) (60 : Nat))) ∧ enN (sub (bs s) (0 : Nat) (60 : Nat)) ≤ (9223372036854775807 : Nat))))))) ∧
      (br (smZ (Row.mk (List.take (enN (sub (bs s) (0 : Nat) (60 : Nat)) * (1 : Nat)) (List.drop (0 : Nat) (enC (sub (bs s) (0 : Nat) (60 : Nat))))) true (Ob.cells true)) (Row.mk (List.take (enN (sub (bs s) (0 : Nat) (60 : Nat)) * (1 : Nat)) (List.drop (0 : Nat) (enC (sub (bs s) (0 : Nat) (60 : Nat))))) true (Ob.cells true)))
       ((((True ∧ True) ∧ (True ∧ (True ∧ List.length (L (sub (bs s) (0 : Nat) (60 : Nat))) ≤ (16777216 : Nat))))) ∧
       (br (szZ (sub (bs s) (0 : Nat) (60 : Nat)) == Int.ofNat (enN (sub (bs s) (0 : Nat) (60 : Nat))))
        (((True ∧ (True ∧ (True ∧ True)))) ∧
        ((true = true) ∧
        True))
        ((true = false) ∧
        True)))
       ((true = false) ∧
       True))))
      ((true = false) ∧
      True))
     ((true = false) ∧
     True)))))
    False)
   ((((True ∧ True) ∧ (True ∧ (True ∧ True)))) ∧
   ((((True ∧ True) ∧ (True ∧ (True ∧ True)))) ∧
   ((((True ∧ True) ∧ (True ∧ ((Plain (enC (bs s)) ∧ True) ∧ List.length (L (bs s)) ≤ (1048576 : Nat))))) ∧
   (br (cdZ n == cdZ2 n)
    (br (lenI n == lenI n)
     ((((True ∧ True) ∧ (True ∧ ((Plain (enC (bs s)) ∧ True) ∧ List.length (L (bs s)) ≤ (1048576 : Nat))))) ∧
     ((((((0 : Nat) + enN (bs s) * (1 : Nat) ≤ List.length (enC (bs s)) ∧ Plain (List.take (enN (bs s) * (1 : Nat)) (List.drop (0 : Nat) (enC (bs s))))) ∧ (((0 : Nat) + enN (bs s) * (1 : Nat) ≤ List.length (enC (bs s)) ∧ Plain (List.take (enN (bs s) * (1 : Nat)) (List.drop (0 : Nat) (enC (bs s))))) ∧ True)) ∧ ((True ∧ (True ∧ True)) ∧ (True ∧ (IsB (Row.mk (List.take (enN (bs s) * (1 : Nat)) (List.drop (0 : Nat) (enC (bs s)))) true (Ob.cells true)) (enN (bs s)) ∧ (IsB (Row.mk (List.take (enN (bs s) * (1 : Nat)) (List.drop (0 : Nat) (enC (bs s)))) true (Ob.cells true)) (enN (bs s)) ∧ enN (bs s) ≤ (9223372036854775807 : Nat))))))) ∧
     (br (smZ (Row.mk (List.take (enN (bs s) * (1 : Nat)) (List.drop (0 : Nat) (enC (bs s)))) true (Ob.cells true)) (Row.mk (List.take (enN (bs s) * (1 : Nat)) (List.drop (0 : Nat) (enC (bs s)))) true (Ob.cells true)))
      ((((True ∧ True) ∧ (True ∧ (True ∧ List.length (L (bs s)) ≤ (16777216 : Nat))))) ∧
      (br (szZ (bs s) == Int.ofNat (enN (bs s)))
       (((True ∧ (True ∧ (True ∧ True)))) ∧
       ((true = true) ∧
       True))
       ((true = false) ∧
       True)))
      ((true = false) ∧
      True))))
     ((true = false) ∧
     True))
    ((true = false) ∧
    True)))))) := by kernel_rfl
theorem eREn_ok : EntOk Try.prog eREn := entC_ok (by
  intro a rows p v news h hp
  split at h <;> simp only [Option.some.injEq, Prod.mk.injEq, reduceCtorEq] at h
  obtain ⟨rfl, rfl, rfl⟩ := h
  rw [z_enN, z_enC]
  exact REn_con (L _) hp)
theorem eRunsHT_ok : EntOk Try.prog eRunsHT := entC_ok (by
  intro a rows p v news h hp
  split at h <;> simp only [Option.some.injEq, Prod.mk.injEq, reduceCtorEq] at h
  obtain ⟨rfl, rfl, rfl⟩ := h
  exact runs_con)
theorem tHt_ok : ∀ x ∈ tHt, EntOk Try.prog x := all_cons eCode_ok (all_cons eK_ok (all_cons eSize_ok (all_cons eEnc_ok (all_cons eREn_ok (all_cons eSame_ok (all_cons eRunsHT_ok (all_nil)))))))
theorem encB_szN : ∀ l : List UInt8, (encB l).length = szN l
  | [] => rfl
  | c :: l => by
    have e : encB (c :: l) = cB c.toNat ++ encB l := by unfold encB; rw [List.flatMap_cons]
    have f : szN (c :: l) = hLen c.toNat + szN l := by unfold szN; rw [List.map_cons, List.sum_cons]
    rw [e, f, List.length_append, cB_len, encB_szN l]
theorem encL_l (l : List UInt8) : (encL l).length = (szN l + 7) / 8 := by
  unfold encL padd
  rw [byts_l, List.length_append, List.length_replicate, encB_szN]; omega
theorem te_law (n : Int) (s : ByteArray) (_ : I64 n) (hs : s.size ≤ maxLen) : Con Try.prog 4 [.int .i64 n, .string s] [] (.bool true) [] := by
  obtain ⟨s, rfl⟩ : ∃ l, s = bs l := ⟨L s, rfl⟩
  refine con_vc (E := EtHt) mixed (calls_envT tHt_ok) (lok_envT _ _) (M := noM) lm_none (Te_vc n s) ?_
  have e1 : (bs s).data.toList.length = s.length := bs_len s
  have s0 : ∀ (l : List UInt8) (n : Nat), sub (bs l) 0 n = bs (l.take n) := fun l n => Eq.trans rfl rfl
  simp only [ofNat_eq, toNat_cast, Nat.zero_add, Nat.add_zero, Nat.mul_one, List.drop_zero, bCells_len, bCells_drop, bCells_take, bCells_app, bCells_one, bCells_plain, List.length_replicate, List.length_append, List.length_take, List.length_drop, List.take_length, and_true, true_and, and_self, decide_true, List.length_nil, List.length_cons, Nat.sub_zero, dB_mk, dB_ro, List.take_zero, z_szZ, z_cdZ, z_cdZ2, z_lenI, z_enN, z_enC, z_smZ, e1, s0, L_bs]
  have key : ∀ m : List UInt8, m.length ≤ 60 → br (cdI n == cdI n)
      (br (hLenI n == hLenI n)
        (m.length ≤ 1048576 ∧
          ((encL m).length ≤ (encL m).length ∧
            IsB { cells := bCells (encL m), ro := true, ob := Ob.cells true } (encL m).length ∧
              IsB { cells := bCells (encL m), ro := true, ob := Ob.cells true } (encL m).length ∧
                (encL m).length ≤ 9223372036854775807) ∧
            br true
              (m.length ≤ 16777216 ∧ br ((((szN m + 7) / 8 : Nat) : Int) == (((encL m).length : Nat) : Int)) True (true = false))
              (true = false))
        (true = false))
      (true = false) := by
    intro m hm
    have hl := szN_le m
    have he := encL_l m
    refine br_b (by simp) (br_b (by simp) ⟨by omega, ⟨Nat.le_refl _, isB_mk _ _ rfl, isB_mk _ _ rfl, by omega⟩, br_b rfl ⟨by omega, br_b (by rw [he]; simp) trivial⟩⟩)
  refine br_if (fun h => br_dec (by omega) ⟨by omega, ?_⟩) (fun h => ⟨by omega, key s (by omega)⟩)
  have := key (s.take 60) (by rw [List.length_take]; omega)
  rw [List.length_take] at this
  exact this
end Go.Proofs.Ytbpeollodpjicaa.hf
