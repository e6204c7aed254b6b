/- The document's own: made clean, in seconds, held against each other, shared. -/
import Derived.Test.YtgnpilaadggegaaSz9
import Derived.Test.YtgnpilaadggegaaRows
import Derived.Test.YtgnpilaadggegaaLwg
set_option linter.unusedSimpArgs false
set_option linter.unusedVariables false
namespace Go.Proofs.Ytgnpilaadggegaa.fl
open Go Go.Ev Go.Sy Go.RowKit
noncomputable def cWr : FuncId → List Value → List Row → Option (Prop × Value × List Row)
  | 21, [.float .f64 b], [] => some (True, .float .f64 (cl b), [])
  | 28, [.float .f64 b], [] => some (True, .int .i64 (rk b), [])
  | _, _, _ => none
noncomputable abbrev EWr : Env := envC Try.prog cWr (fun f => Nat.beq f 21 || Nat.beq f 28)
theorem rcl_vc (b : Nat) (v : Nat) : mcall E0 noM 60 21 [.float .f64 b] ⟨mkR (nums 0 []), 0⟩ (retIs 0 (.float .f64 v) []) =
  (br (Ieee.Format.order (FloatKind.format FloatKind.f64) b (4607182418800017408 : Nat) == some Ordering.gt)
   ((v = (4607182418800017408 : Nat)) ∧
   True)
   (br (Ieee.Format.order (FloatKind.format FloatKind.f64) b (0 : Nat) == some Ordering.gt)
    ((v = b) ∧
    True)
    ((v = (0 : Nat)) ∧
    True))) := by kernel_rfl
theorem rrk_vc (b : Nat) (v : Int) : mcall E0 noM 60 28 [.float .f64 b] ⟨mkR (nums 0 []), 0⟩ (retIs 0 (.int .i64 v) []) =
  (br (Ieee.Format.order (FloatKind.format FloatKind.f64) b b != some Ordering.eq)
   ((v = (0 : Int)) ∧
   True)
   (br (Ieee.Format.order (FloatKind.format FloatKind.f64) b (0 : Nat) == some Ordering.lt)
    ((v = (1 : Int)) ∧
    True)
    (br (Ieee.Format.order (FloatKind.format FloatKind.f64) b (0 : Nat) == some Ordering.gt)
     ((v = (4 : Int)) ∧
     True)
     (∃ r : Nat, ((Eq (α := Option Nat) (fA BinOp.quo FloatKind.f64 (4607182418800017408 : Nat) b) (some r)) ∧
     (br (Ieee.Format.order (FloatKind.format FloatKind.f64) r (0 : Nat) == some Ordering.lt)
      ((v = (2 : Int)) ∧
      True)
      ((v = (3 : Int)) ∧
      True))))))) := by kernel_rfl
theorem rse_vc (b : Nat) (v : Int) : mcall E0 noM 60 22 [.float .f64 b] ⟨mkR (nums 0 []), 0⟩ (retIs 0 (.int .i64 v) []) =
  (br (Ieee.Format.order (FloatKind.format FloatKind.f64) b (4746794007244308480 : Nat) == some Ordering.gt || Ieee.Format.order (FloatKind.format FloatKind.f64) b (4746794007244308480 : Nat) == some Ordering.eq)
   ((v = (2147483647 : Int)) ∧
   True)
   (br (Ieee.Format.order (FloatKind.format FloatKind.f64) b (0 : Nat) == some Ordering.gt)
    (∃ n : Int, ((Eq (α := Option Int) (fToI FloatKind.f64 b) (some n)) ∧
    ((((-9223372036854775808 : Int) ≤ n ∧ n ≤ (9223372036854775807 : Int))) ∧
    ((v = n) ∧
    True))))
    ((v = (0 : Int)) ∧
    True))) := by kernel_rfl
theorem rck_vc (a b : Nat) (v : Int) : mcall EWr noM 60 23 [.float .f64 a, .float .f64 b] ⟨mkR (nums 0 []), 0⟩ (retIs 0 (.int .i64 v) []) =
  ((((True ∧ True) ∧ (True ∧ True))) ∧
  ((((True ∧ True) ∧ (True ∧ True))) ∧
  (br (decide (rk a < rk b))
   ((v = (-1 : Int)) ∧
   True)
   (br (rk a == rk b)
    (br (Ieee.Format.order (FloatKind.format FloatKind.f64) a b == some Ordering.lt)
     ((v = (-1 : Int)) ∧
     True)
     (br (decide (rk a > rk b))
      ((v = (1 : Int)) ∧
      True)
      (br (rk a == rk b)
       (br (Ieee.Format.order (FloatKind.format FloatKind.f64) a b == some Ordering.gt)
        ((v = (1 : Int)) ∧
        True)
        ((v = (0 : Int)) ∧
        True))
       ((v = (0 : Int)) ∧
       True))))
    (br (decide (rk a > rk b))
     ((v = (1 : Int)) ∧
     True)
     (br (rk a == rk b)
      (br (Ieee.Format.order (FloatKind.format FloatKind.f64) a b == some Ordering.gt)
       ((v = (1 : Int)) ∧
       True)
       ((v = (0 : Int)) ∧
       True))
      ((v = (0 : Int)) ∧
      True))))))) := by kernel_rfl
theorem rsh_vc (n : Int) (b : Nat) (v : Int) : mcall EWr noM 60 24 [.int .i64 n, .float .f64 b] ⟨mkR (nums 0 []), 0⟩ (retIs 0 (.int .i64 v) []) =
  ((((True ∧ True) ∧ (True ∧ True))) ∧
  (∃ r : Nat, ((Eq (α := Option Nat) (fA BinOp.mul FloatKind.f64 (FloatKind.nearest FloatKind.f64 (if (if (2147483647 : Int) < n then (2147483647 : Int) else n) > (0 : Int) then if (2147483647 : Int) < n then (2147483647 : Int) else n else (0 : Int))) (cl b)) (some r)) ∧
  (∃ n2 : Int, ((Eq (α := Option Int) (fToI FloatKind.f64 r) (some n2)) ∧
  ((((-9223372036854775808 : Int) ≤ n2 ∧ n2 ≤ (9223372036854775807 : Int))) ∧
  ((v = n2) ∧
  True))))))) := by kernel_rfl
theorem rcl_con (b : Nat) : Con Try.prog 21 [.float .f64 b] [] (.float .f64 (cl b)) [] := by
  refine con_vc (E := E0) mixed (calls_envN _) (lok_envN _) (M := noM) lm_none (rcl_vc b _) ?_
  simp only [ofNat_eq, toNat_cast, Nat.zero_add, Nat.add_zero, Nat.mul_one, List.drop_zero, bCells_len, bCells_drop, bCells_take, bCells_app, bCells_one, bCells_plain, List.length_replicate, List.length_append, List.length_take, List.length_drop, List.take_length, and_true, true_and, and_self, decide_true, List.length_nil, List.length_cons, Nat.sub_zero, dB_mk, dB_ro, List.take_zero]
  simp only [gt_f, nn0, nn1', fv0, fv1', br_iff]
  have hp := p2i 1074
  unfold cl one
  generalize (p2 1074 : Int) = x at *
  generalize (4607182418800017408 : Nat) = y at *
  grind
theorem rrk_con (b : Nat) : Con Try.prog 28 [.float .f64 b] [] (.int .i64 (rk b)) [] := by
  refine con_vc (E := E0) mixed (calls_envN _) (lok_envN _) (M := noM) lm_none (rrk_vc b _) ?_
  simp only [ofNat_eq, toNat_cast, Nat.zero_add, Nat.add_zero, Nat.mul_one, List.drop_zero, bCells_len, bCells_drop, bCells_take, bCells_app, bCells_one, bCells_plain, List.length_replicate, List.length_append, List.length_take, List.length_drop, List.take_length, and_true, true_and, and_self, decide_true, List.length_nil, List.length_cons, Nat.sub_zero, dB_mk, dB_ro, List.take_zero]
  simp only [gt_f, lt_f, ne_f, nn0, fv0]
  unfold rk
  cases h : nn b
  · simp only [Bool.not_false, Bool.true_and, Bool.not_true, Bool.false_eq_true, if_false, decide_true, br_iff]
    refine ⟨fun h => by simp at h, fun _ => ⟨fun h1 => ?_, fun h1 => ⟨fun h2 => ?_, fun h2 => ?_⟩⟩⟩
    · rw [if_pos (by simpa using h1)]
    · rw [if_neg (by simpa using h1), if_pos (by simpa using h2)]
    · have a1 : ¬ fv b < 0 := by simpa using h1
      have a2 : ¬ 0 < fv b := by simpa using h2
      obtain ⟨r, r1, r2, r3⟩ := inv_zero h (by omega)
      refine ⟨r, r1, ?_⟩
      rw [if_neg a1, if_neg a2, r2]
      refine ⟨fun h3 => ?_, fun h3 => ?_⟩
      · rw [if_pos (r3.1 (by simpa using h3))]
      · rw [if_neg (fun c => by have := r3.2 c; simp at h3; omega)]
  · exact br_iff.2 ⟨fun _ => rfl, fun h => by simp at h⟩
theorem rse_con (b : Nat) : Con Try.prog 22 [.float .f64 b] [] (.int .i64 (sec b)) [] := by
  refine con_vc (E := E0) mixed (calls_envN _) (lok_envN _) (M := noM) lm_none (rse_vc b _) ?_
  simp only [ofNat_eq, toNat_cast, Nat.zero_add, Nat.add_zero, Nat.mul_one, List.drop_zero, bCells_len, bCells_drop, bCells_take, bCells_app, bCells_one, bCells_plain, List.length_replicate, List.length_append, List.length_take, List.length_drop, List.take_length, and_true, true_and, and_self, decide_true, List.length_nil, List.length_cons, Nat.sub_zero, dB_mk, dB_ro, List.take_zero]
  simp only [ge_f]
  simp only [gt_f, nn0, nnM, fv0, fvM, br_iff]
  have hp := p2i 1074
  refine ⟨fun h2 => ?_, fun h2 => ⟨fun h => ?_, fun h => ?_⟩⟩
  · have h2 : nn b = false ∧ 2147483647 * (p2 1074 : Int) ≤ fv b := by simpa using h2
    unfold sec
    rw [if_pos ⟨h2.1, by omega⟩, if_pos h2.2]
  · have h : nn b = false ∧ 0 < fv b := by simpa using h
    have h2 : ¬ 2147483647 * (p2 1074 : Int) ≤ fv b := by simpa [h.1] using h2
    obtain ⟨r1, r2, r3⟩ := sec_num h.1 h.2 (by omega)
    exact ⟨_, r1, by omega, rfl⟩
  · unfold sec
    rw [if_neg (fun c => by simp [c.1] at h; omega)]
theorem cWr_ok : ∀ f a rows p v news, cWr f a rows = some (p, v, news) → p → Con Try.prog f a rows v (rows ++ news) := by
  intro f a rows p v news h hp
  unfold cWr at h
  split at h <;> simp only [Option.some.injEq, Prod.mk.injEq, reduceCtorEq] at h <;> obtain ⟨rfl, rfl, rfl⟩ := h
  · exact rcl_con _
  · exact rrk_con _
theorem rck_con (a b : Nat) : Con Try.prog 23 [.float .f64 a, .float .f64 b] [] (.int .i64 (ck a b)) [] := by
  refine con_vc (E := EWr) mixed (calls_envC cWr_ok) (lok_envC _ _ _) (M := noM) lm_none (rck_vc a b _) ?_
  simp only [ofNat_eq, toNat_cast, Nat.zero_add, Nat.add_zero, Nat.mul_one, List.drop_zero, bCells_len, bCells_drop, bCells_take, bCells_app, bCells_one, bCells_plain, List.length_replicate, List.length_append, List.length_take, List.length_drop, List.take_length, and_true, true_and, and_self, decide_true, List.length_nil, List.length_cons, Nat.sub_zero, dB_mk, dB_ro, List.take_zero]
  simp only [gt_f, lt_f, br_iff]
  have f1 : nn a = true → fv a = 0 := nan_fv
  have f2 : nn b = true → fv b = 0 := nan_fv
  have g1 : nn a = true → rk a = 0 := fun h => by unfold rk; rw [if_pos h]
  have g2 : nn b = true → rk b = 0 := fun h => by unfold rk; rw [if_pos h]
  have g3 : nn a = false → rk a ≠ 0 := fun h => by unfold rk; rw [h]; grind
  have g4 : nn b = false → rk b ≠ 0 := fun h => by unfold rk; rw [h]; grind
  unfold ck
  generalize rk a = x at *
  generalize rk b = y at *
  cases ha : nn a <;> cases hb : nn b <;> simp only [ha, hb, forall_const, false_implies, reduceCtorEq, Bool.not_true, Bool.not_false, Bool.true_and, Bool.false_and, Bool.and_false, decide_eq_true_eq, decide_eq_false_iff_not, gt_iff_lt, beq_iff_eq, beq_eq_false_iff_ne, ne_eq] at *
  all_goals (repeat' first | exact trivial | refine ⟨?_, ?_⟩ | intro _)
  all_goals first | omega | ((repeat' split) <;> omega)
theorem rshare_con (n : Int) (b : Nat) : Con Try.prog 24 [.int .i64 n, .float .f64 b] [] (.int .i64 (share n b)) [] := by
  refine con_vc (E := EWr) mixed (calls_envC cWr_ok) (lok_envC _ _ _) (M := noM) lm_none (rsh_vc n b _) ?_
  simp only [ofNat_eq, toNat_cast, Nat.zero_add, Nat.add_zero, Nat.mul_one, List.drop_zero, bCells_len, bCells_drop, bCells_take, bCells_app, bCells_one, bCells_plain, List.length_replicate, List.length_append, List.length_take, List.length_drop, List.take_length, and_true, true_and, and_self, decide_true, List.length_nil, List.length_cons, Nat.sub_zero, dB_mk, dB_ro, List.take_zero]
  have h0 : 0 ≤ lim n ∧ lim n ≤ 2147483647 := by unfold lim; omega
  obtain ⟨r, r1, r2⟩ := shr_ok (lim n) (cl b) h0.1 h0.2 (cl_unit b)
  have r3 := shr_le (lim n) (cl b) h0.1 h0.2 (cl_unit b)
  have e : (if 0 < (if n > 2147483647 then 2147483647 else n) then (if n > 2147483647 then 2147483647 else n) else 0) = lim n := by unfold lim; grind
  refine ⟨r, ?_, _, r2, by omega, share_eq _ _⟩
  rw [← r1]; congr 2
end Go.Proofs.Ytgnpilaadggegaa.fl
