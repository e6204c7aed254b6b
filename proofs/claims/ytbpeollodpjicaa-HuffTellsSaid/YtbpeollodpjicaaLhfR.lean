/- What is known of codes: a table; the chapter's runs. -/
import Derived.Test.YtbpeollodpjicaaSz9
import Derived.Test.YtbpeollodpjicaaRows
import Derived.Test.YtbpeollodpjicaaLhfD
import Derived.Test.YtbpeollodpjicaaLhfB
import Derived.Test.YtbpeollodpjicaaLbook
import Derived.Test.YtbpeollodpjicaaLwit
set_option maxRecDepth 20000
set_option linter.unusedSimpArgs false
set_option linter.unusedVariables false
namespace Go.Proofs.Ytbpeollodpjicaa.hf
open Go Go.Ev Go.Sy Go.RowKit Go.Proofs.Ytbpeollodpjicaa.gl Go.Proofs.Ytbpeollodpjicaa.tk
theorem nat_ex0 (s : Nat) : ∃ v, v = s := ⟨s, rfl⟩
theorem bo_ex0 (s : Bool) : ∃ v, v = s := ⟨s, rfl⟩
noncomputable def cdZ (n : Int) : Int := Classical.choose (int_ex0 (cdI n))
noncomputable def szZ (s : ByteArray) : Int := Classical.choose (int_ex0 (((szN (L s) + 7) / 8 : Nat) : Int))
noncomputable def enN (s : ByteArray) : Nat := Classical.choose (nat_ex0 (encL (L s)).length)
noncomputable def enC (s : ByteArray) : List Value := Classical.choose (v_ex (bCells (encL (L s))))
noncomputable def smZ (r q : Row) : Bool := Classical.choose (bo_ex0 (decide (dB r = dB q)))
noncomputable def eCode : EntM := entC 11 fun a r => match a, r with
  | [.int .i64 n], [] => some (True, .tuple #[.int .i64 (cdZ n), .int .i64 (lenI n)], [])
  | _, _ => none
noncomputable def eSize : EntM := entC 18 fun a r => match a, r with
  | [.string s], [] => some ((L s).length ≤ 16777216, .int .i64 (szZ s), [])
  | _, _ => none
noncomputable def eEnc : EntM := entC 14 fun a r => match a, r with
  | [.string s], [] => some ((L s).length ≤ 1048576, .slice (some ⟨0, 0, none⟩) (enN s) 1, [⟨enC s, false, .cells true⟩])
  | _, _ => none
noncomputable def eSame : EntM := entC 13 fun a r => match a, r with
  | [.slice (some ⟨0, 0, none⟩) n 1, .slice (some ⟨1, 0, none⟩) m 1], [r0, r1] => some (IsB r0 n ∧ IsB r1 m ∧ n ≤ maxLen, .bool (smZ r0 r1), [])
  | _, _ => none
theorem z_cdZ (n : Int) : cdZ n = cdI n := Classical.choose_spec (int_ex0 _)
theorem z_szZ (s : ByteArray) : szZ s = (((szN (L s) + 7) / 8 : Nat) : Int) := Classical.choose_spec (int_ex0 _)
theorem z_enN (s : ByteArray) : enN s = (encL (L s)).length := Classical.choose_spec (nat_ex0 _)
theorem z_enC (s : ByteArray) : enC s = bCells (encL (L s)) := Classical.choose_spec (v_ex _)
theorem z_smZ (r q : Row) : smZ r q = decide (dB r = dB q) := Classical.choose_spec (bo_ex0 _)
theorem eCode_ok : EntOk Try.prog eCode := entC_ok (by
  intro a rows p v news h hp
  split at h <;> simp only [Option.some.injEq, Prod.mk.injEq, reduceCtorEq] at h
  obtain ⟨rfl, rfl, rfl⟩ := h
  rw [z_cdZ, z_lenI]
  exact Code_con _)
theorem eSize_ok : EntOk Try.prog eSize := entC_ok (by
  intro a rows p v news h hp
  split at h <;> simp only [Option.some.injEq, Prod.mk.injEq, reduceCtorEq] at h
  obtain ⟨rfl, rfl, rfl⟩ := h
  rw [z_szZ]
  exact Sz_con (L _) hp)
theorem eEnc_ok : EntOk Try.prog eEnc := entC_ok (by
  intro a rows p v news h hp
  split at h <;> simp only [Option.some.injEq, Prod.mk.injEq, reduceCtorEq] at h
  obtain ⟨rfl, rfl, rfl⟩ := h
  rw [z_enN, z_enC]
  exact En_con (L _) hp)
theorem eSame_ok : EntOk Try.prog eSame := entC_ok (by
  intro a rows p v news h hp
  split at h <;> simp only [Option.some.injEq, Prod.mk.injEq, reduceCtorEq] at h
  obtain ⟨rfl, rfl, rfl⟩ := h
  obtain ⟨⟨l, rfl, rfl⟩, ⟨q, rfl, rfl⟩, h1⟩ := hp
  rw [z_smZ, dB_ro, dB_ro, List.append_nil]
  exact Go.Proofs.Ytbpeollodpjicaa.bk.same_con l q h1)
theorem runs_con : Con Try.prog 3 [] [] (.bool true) [] :=
  con_flat rfl rfl fun w => run_closedO mixed oH_ok (n := 1000000) (by kernel_rfl) (args := []) rfl rfl (by kernel_rfl) w
end Go.Proofs.Ytbpeollodpjicaa.hf
