/- What is known of codes: a table; the chapter's runs. -/
import Derived.Test.YtbpeollodpjicaaSz9
import Derived.Test.YtbpeollodpjicaaRows
import Derived.Test.YtbpeollodpjicaaLhfD
import Derived.Test.YtbpeollodpjicaaLhfB
import Derived.Test.YtbpeollodpjicaaLbook
import Derived.Test.YtbpeollodpjicaaLwit
set_option maxRecDepth 20000
set_option linter.unusedSimpArgs false
set_option linter.unusedVariables false
namespace Go.Proofs.Ytbpeollodpjicaa.hf
open Go Go.Ev Go.Sy Go.RowKit Go.Proofs.Ytbpeollodpjicaa.gl Go.Proofs.Ytbpeollodpjicaa.tk
theorem ba_ex0 (s : ByteArray) : ∃ v, v = s := ⟨s, rfl⟩
noncomputable def dtZ (r : Row) : ByteArray := Classical.choose (ba_ex0 (bs (decT (dB r))))
noncomputable def deZ (r : Row) : Int := Classical.choose (int_ex0 (decE (dB r)))
noncomputable def eDec : EntM := entC 12 fun a r => match a, r with
  | [.slice (some ⟨0, 0, none⟩) n 1], [r0] => some (IsB r0 n ∧ n ≤ 1048576, .tuple #[.string (dtZ r0), .int .i64 (deZ r0)], [])
  | _, _ => none
theorem z_dtZ (r : Row) : dtZ r = bs (decT (dB r)) := Classical.choose_spec (ba_ex0 _)
theorem z_deZ (r : Row) : deZ r = decE (dB r) := Classical.choose_spec (int_ex0 _)
theorem eDec_ok : EntOk Try.prog eDec := entC_ok (by
  intro a rows p v news h hp
  split at h <;> simp only [Option.some.injEq, Prod.mk.injEq, reduceCtorEq] at h
  obtain ⟨rfl, rfl, rfl⟩ := h
  obtain ⟨⟨l, rfl, rfl⟩, h1⟩ := hp
  rw [z_dtZ, z_deZ, dB_ro, List.append_nil]
  exact De_con l h1)
theorem runs_con : Con Try.prog 3 [] [] (.bool true) [] :=
  con_flat rfl rfl fun w => run_closedO mixed oH_ok (n := 1000000) (by kernel_rfl) (args := []) rfl rfl (by kernel_rfl) w
end Go.Proofs.Ytbpeollodpjicaa.hf
