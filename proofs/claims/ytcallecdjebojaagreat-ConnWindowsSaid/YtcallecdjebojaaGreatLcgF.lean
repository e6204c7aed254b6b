/- ConnFlow: bytes that nobody credits are taken up to the window. -/
import Derived.Test.YtcallecdjebojaaGreatSz9
import Derived.Test.YtcallecdjebojaaGreatRows
import Derived.Test.YtcallecdjebojaaGreatLcgA
import Derived.Test.YtcallecdjebojaaGreatLcut
set_option maxRecDepth 20000
set_option linter.unusedSimpArgs false
set_option linter.unusedVariables false
namespace Go.Proofs.YtcallecdjebojaaGreat.cg
open Go Go.Ev Go.Sy Go.RowKit Go.Proofs.YtcallecdjebojaaGreat.gl Go.Proofs.YtcallecdjebojaaGreat.tk Go.Proofs.YtcallecdjebojaaGreat.cp Go.Proofs.YtcallecdjebojaaGreat.s9 Go.Proofs.YtcallecdjebojaaGreat.fd Go.Proofs.YtcallecdjebojaaGreat.fe Go.Proofs.YtcallecdjebojaaGreat.cu
noncomputable def eRunsG : EntM := entC 3 fun a r => match a, r with
  | [], [] => some (True, .bool true, [])
  | _, _ => none
noncomputable def eRigT : EntM := entC 57 fun a r => match a, r with
  | [.agg ⟨[.int .i64 t, .int .i64 f, .int .i64 s, .slice (some ⟨0, 0, none⟩) n 1]⟩], [r0] => some (IsB r0 n ∧ rightB t f s n = true, .bool true, [])
  | _, _ => none
noncomputable def eWiG : EntM := entC 27 fun a r => match a, r with
  | [.int .i64 n, .int .i64 lo, .int .i64 hi], [] => some (I64 n ∧ -1000000000000 ≤ lo ∧ hi ≤ 1000000000000 ∧ lo ≤ hi, .int .i64 (Go.Proofs.YtcallecdjebojaaGreat.tk.inside n lo hi), [])
  | _, _ => none
structure FS where
  n : Nat
  w : Int
  x : List UInt8
  k : Nat
structure GR where
  o : Int
  x : List UInt8
  k : Nat
structure G8 where
  o : Int
  n : Nat
  K : Nat
  w : Int
  x : List UInt8
  k : Nat
theorem eRunsG_ok : EntOk Tryz.prog eRunsG := entC_ok (by
  intro a rows p v news h hp
  split at h <;> simp only [Option.some.injEq, Prod.mk.injEq, reduceCtorEq] at h
  obtain ⟨rfl, rfl, rfl⟩ := h
  exact con_run tk.mixed (n := 1000000) (by kernel_rfl) (by kernel_rfl))
theorem eRigT_ok : EntOk Tryz.prog eRigT := entC_ok (by
  intro a rows p v news h hp
  split at h <;> simp only [Option.some.injEq, Prod.mk.injEq, reduceCtorEq] at h
  obtain ⟨rfl, rfl, rfl⟩ := h
  rename_i t f s n r0
  obtain ⟨⟨x, rfl, rfl⟩, h2⟩ := hp
  have hc := right_con t f s x
  rw [h2] at hc
  rw [List.append_nil]
  exact hc)
theorem eWiG_ok : EntOk Tryz.prog eWiG := entC_ok (by
  intro a rows p v news h hp
  split at h <;> simp only [Option.some.injEq, Prod.mk.injEq, reduceCtorEq] at h
  obtain ⟨rfl, rfl, rfl⟩ := h
  exact Go.Proofs.YtcallecdjebojaaGreat.tk.within_con _ _ _ hp.1 hp.2.1 hp.2.2.1 hp.2.2.2)
theorem rep_z (K : Nat) : List.take K (List.replicate K (Value.int .u8 0)) = bCells (List.replicate K 0) := by
  rw [List.take_of_length_le (by rw [List.length_replicate]; exact Nat.le_refl _), bCells_rep]
theorem veq_int (n : Nat) (k : IntKind) (a : Int) : veq (n + 1) (.int k a) (.int k a) = true := by simp [veq]
theorem bG (l : List UInt8) : gAll (bCells l) = true := by
  unfold gAll; rw [List.all_eq_true]; intro v hv
  obtain ⟨b, _, rfl⟩ := List.mem_map.1 hv; rfl
theorem gCb (l : List UInt8) : gCells (gCode (bCells l)) = bCells l := gCells_code (bG l)
theorem veq_ag1 (n : Nat) (w : Int) : veq (n + 2) (.agg ⟨[.int .i64 w]⟩) (.agg ⟨[.int .i64 w]⟩) = true := by simp [veq]
end Go.Proofs.YtcallecdjebojaaGreat.cg
