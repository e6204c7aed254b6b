/- Made clean and shared: the program's and the document's. -/
import Derived.Test.YtideeogedleabaaSz9
import Derived.Test.YtideeogedleabaaRows
import Derived.Test.YtideeogedleabaaLflw
set_option maxRecDepth 20000
set_option linter.unusedSimpArgs false
set_option linter.unusedVariables false
namespace Go.Proofs.Ytideeogedleabaa.fl
open Go Go.Ev Go.Sy Go.RowKit
noncomputable abbrev E0 : Env := envN Try.prog
noncomputable def cWg : FuncId → List Value → List Row → Option (Prop × Value × List Row)
  | 48, [.float .f64 b], [] => some (True, .float .f64 (cl b), [])
  | 54, [.float .f64 b], [] => some (True, .float .f64 (cl b), [])
  | _, _, _ => none
noncomputable abbrev EWg : Env := envC Try.prog cWg (fun f => Nat.beq f 48 || Nat.beq f 54)
theorem cl_vc (b : Nat) (v : Nat) : mcall E0 noM 60 48 [.float .f64 b] ⟨mkR (nums 0 []), 0⟩ (retIs 0 (.float .f64 v) []) =
  (br (!Ieee.Format.order (FloatKind.format FloatKind.f64) b 0 == some Ordering.gt) ((v = 0) /\ True) (br (Ieee.Format.order (FloatKind.format FloatKind.f64) b
  4607182418800017408 == some Ordering.gt) ((v = 4607182418800017408) /\ True) ((v = b) /\ True))) := by kernel_rfl
theorem sh_vc (n : Int) (b : Nat) (v : Int) : mcall EWg noM 60 27 [.int .i64 n, .float .f64 b] ⟨mkR (nums 0 []), 0⟩ (retIs 0 (.int .i64 v) []) =
  ((((True /\ True) /\ (True /\ True))) /\ (∃ r : Nat, ((Eq (α := Option Nat) (fA BinOp.mul FloatKind.f64 (FloatKind.nearest FloatKind.f64 (if (2147483647 : Int) < if (0 :
  Int) > n then (0 : Int) else n then (2147483647 : Int) else if (0 : Int) > n then (0 : Int) else n)) (cl b)) (some r)) /\ (∃ n2 : Int, ((Eq (α := Option Int) (fToI
  FloatKind.f64 r) (some n2)) /\ ((((-9223372036854775808 : Int) <= n2 /\ n2 <= (9223372036854775807 : Int))) /\ ((v = n2) /\ True))))))) := by kernel_rfl
theorem rcl_vc (b : Nat) (v : Nat) : mcall E0 noM 60 54 [.float .f64 b] ⟨mkR (nums 0 []), 0⟩ (retIs 0 (.float .f64 v) []) =
  (br (Ieee.Format.order (FloatKind.format FloatKind.f64) b 4607182418800017408 == some Ordering.gt) ((v = 4607182418800017408) /\ True) (br (Ieee.Format.order
  (FloatKind.format FloatKind.f64) b 0 == some Ordering.gt) ((v = b) /\ True) ((v = 0) /\ True))) := by kernel_rfl
theorem mixed : Try.prog.follows .mixedOrders = true := by kernel_rfl
theorem nn1' : nn 4607182418800017408 = false := nn1
theorem fv1' : fv 4607182418800017408 = (p2 1074 : Int) := fv1
theorem p2i (k : Nat) : 0 < (p2 k : Int) := Int.natCast_pos.2 (p2_pos k)
theorem br_iff {b : Bool} {p q : Prop} : br b p q ↔ (b = true → p) ∧ (b = false → q) := by cases b <;> simp [br]
theorem cl_con (b : Nat) : Con Try.prog 48 [.float .f64 b] [] (.float .f64 (cl b)) [] := by
  refine con_vc (E := E0) mixed (calls_envN _) (lok_envN _) (M := noM) lm_none (cl_vc b _) ?_
  simp only [ofNat_eq, toNat_cast, Nat.zero_add, Nat.add_zero, Nat.mul_one, List.drop_zero, bCells_len, bCells_drop, bCells_take, bCells_app, bCells_one, bCells_plain, List.length_replicate, List.length_append, List.length_take, List.length_drop, List.take_length, and_true, true_and, and_self, decide_true, List.length_nil, List.length_cons, Nat.sub_zero, dB_mk, dB_ro, List.take_zero]
  simp only [gt_f, nn0, nn1', fv0, fv1', br_iff]
  have hp := p2i 1074
  unfold cl one
  generalize (p2 1074 : Int) = x at *
  generalize (4607182418800017408 : Nat) = y at *
  grind
theorem rcl_con (b : Nat) : Con Try.prog 54 [.float .f64 b] [] (.float .f64 (cl b)) [] := by
  refine con_vc (E := E0) mixed (calls_envN _) (lok_envN _) (M := noM) lm_none (rcl_vc b _) ?_
  simp only [ofNat_eq, toNat_cast, Nat.zero_add, Nat.add_zero, Nat.mul_one, List.drop_zero, bCells_len, bCells_drop, bCells_take, bCells_app, bCells_one, bCells_plain, List.length_replicate, List.length_append, List.length_take, List.length_drop, List.take_length, and_true, true_and, and_self, decide_true, List.length_nil, List.length_cons, Nat.sub_zero, dB_mk, dB_ro, List.take_zero]
  simp only [gt_f, nn0, nn1', fv0, fv1', br_iff]
  have hp := p2i 1074
  unfold cl one
  generalize (p2 1074 : Int) = x at *
  generalize (4607182418800017408 : Nat) = y at *
  grind
theorem cWg_ok : ∀ f a rows p v news, cWg f a rows = some (p, v, news) → p → Con Try.prog f a rows v (rows ++ news) := by
  intro f a rows p v news h hp
  unfold cWg at h
  split at h <;> simp only [Option.some.injEq, Prod.mk.injEq, reduceCtorEq] at h <;> obtain ⟨rfl, rfl, rfl⟩ := h
  · exact cl_con _
  · exact rcl_con _
theorem share_con (n : Int) (b : Nat) : Con Try.prog 27 [.int .i64 n, .float .f64 b] [] (.int .i64 (share n b)) [] := by
  refine con_vc (E := EWg) mixed (calls_envC cWg_ok) (lok_envC _ _ _) (M := noM) lm_none (sh_vc n b _) ?_
  simp only [ofNat_eq, toNat_cast, Nat.zero_add, Nat.add_zero, Nat.mul_one, List.drop_zero, bCells_len, bCells_drop, bCells_take, bCells_app, bCells_one, bCells_plain, List.length_replicate, List.length_append, List.length_take, List.length_drop, List.take_length, and_true, true_and, and_self, decide_true, List.length_nil, List.length_cons, Nat.sub_zero, dB_mk, dB_ro, List.take_zero]
  have e : (if 2147483647 < if 0 > n then 0 else n then 2147483647 else if 0 > n then 0 else n) = lim n := by unfold lim; grind
  rw [e]
  have h0 : 0 ≤ lim n ∧ lim n ≤ 2147483647 := by unfold lim; omega
  obtain ⟨r, r1, r2⟩ := shr_ok (lim n) (cl b) h0.1 h0.2 (cl_unit b)
  have r3 := shr_le (lim n) (cl b) h0.1 h0.2 (cl_unit b)
  exact ⟨r, r1, _, r2, by omega, share_eq _ _⟩
end Go.Proofs.Ytideeogedleabaa.fl
