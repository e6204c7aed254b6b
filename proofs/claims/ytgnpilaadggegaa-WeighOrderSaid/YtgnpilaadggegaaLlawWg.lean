/- The laws: two numbers; shares; what is made clean; seconds rise. -/
import Derived.Test.YtgnpilaadggegaaSz9
import Derived.Test.YtgnpilaadggegaaRows
import Derived.Test.YtgnpilaadggegaaLwgR
import Derived.Test.YtgnpilaadggegaaLwgF
import Derived.Test.YtgnpilaadggegaaLwit
set_option linter.unusedSimpArgs false
set_option linter.unusedVariables false
namespace Go.Proofs.Ytgnpilaadggegaa.fl
open Go Go.Ev Go.Sy Go.RowKit
def edW (k : Int) : Nat := if k = 0 then Ev.qnan .f64 else if k = 1 then 9218868437227405312 else if k = 2 then 18442240474082181120 else if k = 3 then 9223372036854775808 else 0
noncomputable def eWi : EntM := entC 26 fun a r => match a, r with
  | [.int .i64 n, .int .i64 lo, .int .i64 hi], [] => some (I64 n ∧ -1000000000000 ≤ lo ∧ hi ≤ 1000000000000 ∧ lo ≤ hi, .int .i64 (Go.Proofs.Ytgnpilaadggegaa.tk.inside n lo hi), [])
  | _, _ => none
noncomputable def eRuns : EntM := entC 3 fun a r => match a, r with
  | [], [] => some (True, .bool true, [])
  | _, _ => none
noncomputable def eCl : EntM := entC 15 fun a r => match a, r with
  | [.float .f64 b], [] => some (True, .float .f64 (cl b), [])
  | _, _ => none
noncomputable def eRcl : EntM := entC 21 fun a r => match a, r with
  | [.float .f64 b], [] => some (True, .float .f64 (cl b), [])
  | _, _ => none
noncomputable def eSe : EntM := entC 18 fun a r => match a, r with
  | [.float .f64 b], [] => some (True, .int .i64 (sec b), [])
  | _, _ => none
noncomputable def eRse : EntM := entC 22 fun a r => match a, r with
  | [.float .f64 b], [] => some (True, .int .i64 (sec b), [])
  | _, _ => none
noncomputable def eCk : EntM := entC 19 fun a r => match a, r with
  | [.float .f64 a, .float .f64 b], [] => some (True, .int .i64 (ck a b), [])
  | _, _ => none
noncomputable def eRck : EntM := entC 23 fun a r => match a, r with
  | [.float .f64 a, .float .f64 b], [] => some (True, .int .i64 (ck a b), [])
  | _, _ => none
noncomputable def eSh : EntM := entC 17 fun a r => match a, r with
  | [.int .i64 n, .float .f64 b], [] => some (True, .int .i64 (share n b), [])
  | _, _ => none
noncomputable def eRsh : EntM := entC 24 fun a r => match a, r with
  | [.int .i64 n, .float .f64 b], [] => some (True, .int .i64 (share n b), [])
  | _, _ => none
noncomputable def eEd : EntM := entC 13 fun a r => match a, r with
  | [.int .i64 k], [] => some (0 ≤ k ∧ k ≤ 4, .float .f64 (edW k), [])
  | _, _ => none
noncomputable def tWg : List EntM := [eWi, eRuns, eCl, eRcl, eSe, eRse, eCk, eRck, eSh, eRsh, eEd]
noncomputable abbrev EtWg : Env := envT Try.prog tWg
theorem Tells_vc (a b : Nat) (n : Int) : mcall EtWg noM 60 4 [.float .f64 a, .float .f64 b, .int .i64 n] ⟨mkR (nums 0 []), 0⟩ (retIs 0 (.bool true) []) =
  ((((True ∧ True) ∧ (True ∧ (True ∧ True)))) ∧
  ((((True ∧ True) ∧ (True ∧ (True ∧ True)))) ∧
  ((((True ∧ (True ∧ True)) ∧ (True ∧ (True ∧ True)))) ∧
  (br (ck (cl a) (cl a) == (0 : Int))
   ((((True ∧ True) ∧ (True ∧ (True ∧ True)))) ∧
   ((((True ∧ True) ∧ (True ∧ (True ∧ True)))) ∧
   (br (sec a == sec a)
    ((((True ∧ (True ∧ True)) ∧ (True ∧ (True ∧ True)))) ∧
    ((((True ∧ (True ∧ True)) ∧ (True ∧ (True ∧ True)))) ∧
    (br (ck a b == ck a b)
     ((((True ∧ (True ∧ True)) ∧ (True ∧ (True ∧ True)))) ∧
     ((((True ∧ (True ∧ True)) ∧ (True ∧ (True ∧ True)))) ∧
     (br (share n a == share n a)
      (((True ∧ (True ∧ (True ∧ True)))) ∧
      ((true = true) ∧
      True))
      ((true = false) ∧
      True))))
     ((true = false) ∧
     True))))
    ((true = false) ∧
    True))))
   ((true = false) ∧
   True))))) := by kernel_rfl
theorem Shares_vc (n : Int) (a b : Nat) : mcall EtWg noM 60 8 [.int .i64 n, .float .f64 a, .float .f64 b] ⟨mkR (nums 0 []), 0⟩ (retIs 0 (.bool true) []) =
  ((((True ∧ (True ∧ (True ∧ True))) ∧ (True ∧ (True ∧ (I64 n ∧ ((-1000000000000 : Int) ≤ (0 : Int) ∧ ((2147483647 : Int) ≤ (1000000000000 : Int) ∧ (0 : Int) ≤ (2147483647 : Int)))))))) ∧
  ((((True ∧ (True ∧ True)) ∧ (True ∧ (True ∧ True)))) ∧
  (br (decide (ck a b > (0 : Int)))
   ((((True ∧ (True ∧ True)) ∧ (True ∧ (True ∧ True)))) ∧
   ((((True ∧ (True ∧ True)) ∧ (True ∧ (True ∧ True)))) ∧
   (br (decide (share (tk.inside n (0 : Int) (2147483647 : Int)) b ≥ (0 : Int)))
    (br (decide (share (tk.inside n (0 : Int) (2147483647 : Int)) b ≤ share (tk.inside n (0 : Int) (2147483647 : Int)) a))
     (br (decide (share (tk.inside n (0 : Int) (2147483647 : Int)) a ≤ tk.inside n (0 : Int) (2147483647 : Int)))
      ((((True ∧ (True ∧ True)) ∧ (True ∧ (True ∧ True)))) ∧
      (br (share (tk.inside n (0 : Int) (2147483647 : Int)) (4607182418800017408 : Nat) == tk.inside n (0 : Int) (2147483647 : Int))
       ((((True ∧ (True ∧ True)) ∧ (True ∧ (True ∧ True)))) ∧
       (br (share (tk.inside n (0 : Int) (2147483647 : Int)) (0 : Nat) == (0 : Int))
        ((((True ∧ True) ∧ (True ∧ (True ∧ ((0 : Int) ≤ (0 : Int) ∧ (0 : Int) ≤ (4 : Int)))))) ∧
        ((((True ∧ (True ∧ True)) ∧ (True ∧ (True ∧ True)))) ∧
        (br (share (tk.inside n (0 : Int) (2147483647 : Int)) (9221120237041090561 : Nat) == (0 : Int))
         ((((True ∧ True) ∧ (True ∧ (True ∧ ((0 : Int) ≤ (1 : Int) ∧ (1 : Int) ≤ (4 : Int)))))) ∧
         ((((True ∧ (True ∧ True)) ∧ (True ∧ (True ∧ True)))) ∧
         (br (share (tk.inside n (0 : Int) (2147483647 : Int)) (9218868437227405312 : Nat) == tk.inside n (0 : Int) (2147483647 : Int))
          (((True ∧ (True ∧ (True ∧ True)))) ∧
          ((true = true) ∧
          True))
          ((true = false) ∧
          True))))
         ((true = false) ∧
         True))))
        ((true = false) ∧
        True)))
       ((true = false) ∧
       True)))
      ((true = false) ∧
      True))
     ((true = false) ∧
     True))
    ((true = false) ∧
    True))))
   ((((True ∧ (True ∧ True)) ∧ (True ∧ (True ∧ True)))) ∧
   ((((True ∧ (True ∧ True)) ∧ (True ∧ (True ∧ True)))) ∧
   (br (decide (share (tk.inside n (0 : Int) (2147483647 : Int)) a ≥ (0 : Int)))
    (br (decide (share (tk.inside n (0 : Int) (2147483647 : Int)) a ≤ share (tk.inside n (0 : Int) (2147483647 : Int)) b))
     (br (decide (share (tk.inside n (0 : Int) (2147483647 : Int)) b ≤ tk.inside n (0 : Int) (2147483647 : Int)))
      ((((True ∧ (True ∧ True)) ∧ (True ∧ (True ∧ True)))) ∧
      (br (share (tk.inside n (0 : Int) (2147483647 : Int)) (4607182418800017408 : Nat) == tk.inside n (0 : Int) (2147483647 : Int))
       ((((True ∧ (True ∧ True)) ∧ (True ∧ (True ∧ True)))) ∧
       (br (share (tk.inside n (0 : Int) (2147483647 : Int)) (0 : Nat) == (0 : Int))
        ((((True ∧ True) ∧ (True ∧ (True ∧ ((0 : Int) ≤ (0 : Int) ∧ (0 : Int) ≤ (4 : Int)))))) ∧
        ((((True ∧ (True ∧ True)) ∧ (True ∧ (True ∧ True)))) ∧
        (br (share (tk.inside n (0 : Int) (2147483647 : Int)) (9221120237041090561 : Nat) == (0 : Int))
         ((((True ∧ True) ∧ (True ∧ (True ∧ ((0 : Int) ≤ (1 : Int) ∧ (1 : Int) ≤ (4 : Int)))))) ∧
         ((((True ∧ (True ∧ True)) ∧ (True ∧ (True ∧ True)))) ∧
         (br (share (tk.inside n (0 : Int) (2147483647 : Int)) (9218868437227405312 : Nat) == tk.inside n (0 : Int) (2147483647 : Int))
          (((True ∧ (True ∧ (True ∧ True)))) ∧
          ((true = true) ∧
          True))
          ((true = false) ∧
          True))))
         ((true = false) ∧
         True))))
        ((true = false) ∧
        True)))
       ((true = false) ∧
       True)))
      ((true = false) ∧
      True))
     ((true = false) ∧
     True))
    ((true = false) ∧
    True))))))) := by kernel_rfl
theorem Cleans_vc (a : Nat) : mcall EtWg noM 60 10 [.float .f64 a] ⟨mkR (nums 0 []), 0⟩ (retIs 0 (.bool true) []) =
  ((((True ∧ True) ∧ (True ∧ (True ∧ True)))) ∧
  ((((True ∧ True) ∧ (True ∧ (True ∧ True)))) ∧
  (br (Ieee.Format.order (FloatKind.format FloatKind.f64) (cl a) (0 : Nat) == some Ordering.gt || Ieee.Format.order (FloatKind.format FloatKind.f64) (cl a) (0 : Nat) == some Ordering.eq)
   (br (Ieee.Format.order (FloatKind.format FloatKind.f64) (cl a) (4607182418800017408 : Nat) == some Ordering.lt || Ieee.Format.order (FloatKind.format FloatKind.f64) (cl a) (4607182418800017408 : Nat) == some Ordering.eq)
    (∃ r : Nat, ((Eq (α := Option Nat) (fA BinOp.add FloatKind.f64 (cl a) (0 : Nat)) (some r)) ∧
    (∃ r2 : Nat, ((Eq (α := Option Nat) (fA BinOp.quo FloatKind.f64 (4607182418800017408 : Nat) r) (some r2)) ∧
    (br (Ieee.Format.order (FloatKind.format FloatKind.f64) r2 (0 : Nat) == some Ordering.gt)
     (br (Ieee.Format.order (FloatKind.format FloatKind.f64) (cl a) (0 : Nat) != some Ordering.eq)
      ((((True ∧ (True ∧ True)) ∧ (True ∧ (True ∧ True)))) ∧
      (br (ck (cl a) (cl (cl a)) == (0 : Int))
       (((True ∧ (True ∧ (True ∧ True)))) ∧
       ((true = true) ∧
       True))
       ((true = false) ∧
       True)))
      (∃ r3 : Nat, ((Eq (α := Option Nat) (fA BinOp.quo FloatKind.f64 (4607182418800017408 : Nat) (cl a)) (some r3)) ∧
      (br (Ieee.Format.order (FloatKind.format FloatKind.f64) r3 (0 : Nat) == some Ordering.gt)
       ((((True ∧ (True ∧ True)) ∧ (True ∧ (True ∧ True)))) ∧
       (br (ck (cl a) (cl (cl a)) == (0 : Int))
        (((True ∧ (True ∧ (True ∧ True)))) ∧
        ((true = true) ∧
        True))
        ((true = false) ∧
        True)))
       ((true = false) ∧
       True)))))
     ((true = false) ∧
     True))))))
    ((true = false) ∧
    True))
   ((true = false) ∧
   True)))) := by kernel_rfl
theorem Rises_vc (a b : Nat) (n : Int) : mcall EtWg noM 60 11 [.float .f64 a, .float .f64 b, .int .i64 n] ⟨mkR (nums 0 []), 0⟩ (retIs 0 (.bool true) []) =
  ((((True ∧ (True ∧ True)) ∧ (True ∧ (True ∧ True)))) ∧
  (br (decide (ck a b > (0 : Int)))
   ((((True ∧ (True ∧ (True ∧ True))) ∧ (True ∧ (True ∧ (I64 n ∧ ((-1000000000000 : Int) ≤ (0 : Int) ∧ ((2147483647 : Int) ≤ (1000000000000 : Int) ∧ (0 : Int) ≤ (2147483647 : Int)))))))) ∧
   ((((True ∧ True) ∧ (True ∧ (True ∧ True)))) ∧
   ((((True ∧ True) ∧ (True ∧ (True ∧ True)))) ∧
   (br (decide (sec b ≤ sec a))
    (br (decide (sec b ≥ (0 : Int)))
     (br (decide (sec a ≤ (2147483647 : Int)))
      ((((True ∧ True) ∧ (True ∧ (True ∧ True)))) ∧
      (br (sec (FloatKind.nearest FloatKind.f64 (tk.inside n (0 : Int) (2147483647 : Int))) == tk.inside n (0 : Int) (2147483647 : Int))
       (((True ∧ (True ∧ (True ∧ True)))) ∧
       ((true = true) ∧
       True))
       ((true = false) ∧
       True)))
      ((true = false) ∧
      True))
     ((true = false) ∧
     True))
    ((true = false) ∧
    True)))))
   ((((True ∧ (True ∧ (True ∧ True))) ∧ (True ∧ (True ∧ (I64 n ∧ ((-1000000000000 : Int) ≤ (0 : Int) ∧ ((2147483647 : Int) ≤ (1000000000000 : Int) ∧ (0 : Int) ≤ (2147483647 : Int)))))))) ∧
   ((((True ∧ True) ∧ (True ∧ (True ∧ True)))) ∧
   ((((True ∧ True) ∧ (True ∧ (True ∧ True)))) ∧
   (br (decide (sec a ≤ sec b))
    (br (decide (sec a ≥ (0 : Int)))
     (br (decide (sec b ≤ (2147483647 : Int)))
      ((((True ∧ True) ∧ (True ∧ (True ∧ True)))) ∧
      (br (sec (FloatKind.nearest FloatKind.f64 (tk.inside n (0 : Int) (2147483647 : Int))) == tk.inside n (0 : Int) (2147483647 : Int))
       (((True ∧ (True ∧ (True ∧ True)))) ∧
       ((true = true) ∧
       True))
       ((true = false) ∧
       True)))
      ((true = false) ∧
      True))
     ((true = false) ∧
     True))
    ((true = false) ∧
    True))))))) := by kernel_rfl
/-- A closed call that answers a floating-point number, as a contract. -/
theorem con_runf {P : Program} (hm : P.follows .mixedOrders = true) {n : Nat} {f : FuncId} (hok : okFn P f = true) {args : List Value} (hfl : args.all (flat 12) = true) {k : FloatKind} {b : Nat} (h : ret? (Ev.run P n f args ⟨.leaf, 0⟩) = some (.float k b)) : Con P f args [] (.float k b) [] := by
  intro B μ w args' h1 h2 hw hargs hok'
  rw [flat_args hfl hargs]
  have key : Calls P f args.toArray w fun e w' => Below w.heap.size w w' ∧ ∀ μ, EnR μ (.ret (.float k b)) e := by
    unfold ret? at h
    split at h
    · rename_i r h' hr
      simp at h; subst h
      have hw : WR ⟨fun b => w.heap.size ≤ b, fun _ => False⟩ (fun _ => none) (Hp.rows ⟨.leaf, 0⟩).find (Hp.next ⟨.leaf, 0⟩) w :=
        ⟨fun _ h => h, fun _ hz => hz.elim, fun _ _ _ => rfl, fun q row hq => by simp [Tr.find] at hq, fun q row hq => by simp [Tr.find] at hq, fun q1 q2 x y b o s o' s' hx => by simp [Tr.find] at hx⟩
      have hargs : VRs (fun _ => none) args args.toArray.toList := by
        refine ⟨by simp, fun i v v' h1 h2 => ?_⟩
        simp at h2
        rw [h1] at h2; simp at h2; subst h2
        rw [List.all_eq_true] at hfl
        exact flat_refl _ _ (hfl v (List.mem_of_getElem? h1))
      refine (callF_ok (ev_ok hm noO_ok n) _ f args ⟨.leaf, 0⟩ (.ret _) h' (fun _ => none) w args.toArray hr hw hargs hok).mono ?_
      rintro e w' ⟨μ', q1, q2, q3, q4⟩
      cases e with
      | returned v' =>
        refine ⟨⟨q3.os, q3.tape, q3.output, q3.size, fun k hk => q3.block k hk ?_⟩, fun μ => ?_⟩
        · rintro ⟨q, row, o', s, hq, _⟩
          simp [Tr.find] at hq
        · obtain ⟨a', rfl, ha⟩ := float_inv q4
          rcases ha with rfl | ha
          · exact .float _ _
          · exact .nan _ _ _ ha.1 ha.2
      | panicked c => exact q4.elim
      | outgrown => exact q4.elim
    · simp at h
  refine key.mono ?_
  rintro e w' ⟨hb, he⟩
  obtain ⟨k1, k2⟩ := wr_below hw hb
  exact ⟨μ, Le.refl _, k1, k2, he μ⟩
theorem ed_con (k : Int) (h0 : 0 ≤ k) (h1 : k ≤ 4) : Con Try.prog 13 [.int .i64 k] [] (.float .f64 (edW k)) [] := by
  have h : k = 0 ∨ k = 1 ∨ k = 2 ∨ k = 3 ∨ k = 4 := by omega
  rcases h with rfl | rfl | rfl | rfl | rfl <;> exact con_runf mixed (n := 1000) (by kernel_rfl) rfl (by kernel_rfl)
theorem eWi_ok : EntOk Try.prog eWi := entC_ok (by
  intro a rows p v news h hp
  split at h <;> simp only [Option.some.injEq, Prod.mk.injEq, reduceCtorEq] at h
  obtain ⟨rfl, rfl, rfl⟩ := h
  exact Go.Proofs.Ytgnpilaadggegaa.tk.within_con _ _ _ hp.1 hp.2.1 hp.2.2.1 hp.2.2.2)
theorem eRuns_ok : EntOk Try.prog eRuns := entC_ok (by
  intro a rows p v news h hp
  split at h <;> simp only [Option.some.injEq, Prod.mk.injEq, reduceCtorEq] at h
  obtain ⟨rfl, rfl, rfl⟩ := h
  exact con_run mixed (n := 1000000) (by kernel_rfl) (by kernel_rfl))
theorem eCl_ok : EntOk Try.prog eCl := entC_ok (by
  intro a rows p v news h hp
  split at h <;> simp only [Option.some.injEq, Prod.mk.injEq, reduceCtorEq] at h
  obtain ⟨rfl, rfl, rfl⟩ := h
  exact cl_con _)
theorem eRcl_ok : EntOk Try.prog eRcl := entC_ok (by
  intro a rows p v news h hp
  split at h <;> simp only [Option.some.injEq, Prod.mk.injEq, reduceCtorEq] at h
  obtain ⟨rfl, rfl, rfl⟩ := h
  exact rcl_con _)
theorem eSe_ok : EntOk Try.prog eSe := entC_ok (by
  intro a rows p v news h hp
  split at h <;> simp only [Option.some.injEq, Prod.mk.injEq, reduceCtorEq] at h
  obtain ⟨rfl, rfl, rfl⟩ := h
  exact se_con _)
theorem eRse_ok : EntOk Try.prog eRse := entC_ok (by
  intro a rows p v news h hp
  split at h <;> simp only [Option.some.injEq, Prod.mk.injEq, reduceCtorEq] at h
  obtain ⟨rfl, rfl, rfl⟩ := h
  exact rse_con _)
theorem eCk_ok : EntOk Try.prog eCk := entC_ok (by
  intro a rows p v news h hp
  split at h <;> simp only [Option.some.injEq, Prod.mk.injEq, reduceCtorEq] at h
  obtain ⟨rfl, rfl, rfl⟩ := h
  exact ck_con _ _)
theorem eRck_ok : EntOk Try.prog eRck := entC_ok (by
  intro a rows p v news h hp
  split at h <;> simp only [Option.some.injEq, Prod.mk.injEq, reduceCtorEq] at h
  obtain ⟨rfl, rfl, rfl⟩ := h
  exact rck_con _ _)
theorem eSh_ok : EntOk Try.prog eSh := entC_ok (by
  intro a rows p v news h hp
  split at h <;> simp only [Option.some.injEq, Prod.mk.injEq, reduceCtorEq] at h
  obtain ⟨rfl, rfl, rfl⟩ := h
  exact share_con _ _)
theorem eRsh_ok : EntOk Try.prog eRsh := entC_ok (by
  intro a rows p v news h hp
  split at h <;> simp only [Option.some.injEq, Prod.mk.injEq, reduceCtorEq] at h
  obtain ⟨rfl, rfl, rfl⟩ := h
  exact rshare_con _ _)
theorem eEd_ok : EntOk Try.prog eEd := entC_ok (by
  intro a rows p v news h hp
  split at h <;> simp only [Option.some.injEq, Prod.mk.injEq, reduceCtorEq] at h
  obtain ⟨rfl, rfl, rfl⟩ := h
  exact ed_con _ hp.1 hp.2)
theorem tWg_ok : ∀ x ∈ tWg, EntOk Try.prog x := all_cons eWi_ok (all_cons eRuns_ok (all_cons eCl_ok (all_cons eRcl_ok (all_cons eSe_ok (all_cons eRse_ok (all_cons eCk_ok (all_cons eRck_ok (all_cons eSh_ok (all_cons eRsh_ok (all_cons eEd_ok (all_nil)))))))))))
theorem ck_self (a : Nat) : ck a a = 0 := by unfold ck; simp
theorem tells_law (a b : Nat) (n : Int) (_ : I64 n) : Con Try.prog 4 [.float .f64 a, .float .f64 b, .int .i64 n] [] (.bool true) [] := by
  refine con_vc (E := EtWg) mixed (calls_envT tWg_ok) (lok_envT _ _) (M := noM) lm_none (Tells_vc a b n) ?_
  simp only [ofNat_eq, toNat_cast, Nat.zero_add, Nat.add_zero, Nat.mul_one, List.drop_zero, bCells_len, bCells_drop, bCells_take, bCells_app, bCells_one, bCells_plain, List.length_replicate, List.length_append, List.length_take, List.length_drop, List.take_length, and_true, true_and, and_self, decide_true, List.length_nil, List.length_cons, Nat.sub_zero, dB_mk, dB_ro, List.take_zero]
  rw [ck_self]
  exact br_b rfl (br_b (by simp) (br_b (by simp) (br_b (by simp) trivial)))
theorem shares_law (n : Int) (a b : Nat) (_ : I64 n) : Con Try.prog 8 [.int .i64 n, .float .f64 a, .float .f64 b] [] (.bool true) [] := by
  refine con_vc (E := EtWg) mixed (calls_envT tWg_ok) (lok_envT _ _) (M := noM) lm_none (Shares_vc n a b) ?_
  simp only [ofNat_eq, toNat_cast, Nat.zero_add, Nat.add_zero, Nat.mul_one, List.drop_zero, bCells_len, bCells_drop, bCells_take, bCells_app, bCells_one, bCells_plain, List.length_replicate, List.length_append, List.length_take, List.length_drop, List.take_length, and_true, true_and, and_self, decide_true, List.length_nil, List.length_cons, Nat.sub_zero, dB_mk, dB_ro, List.take_zero]
  refine ⟨⟨‹_›, by omega, by omega, by omega⟩, ?_⟩
  have hk : 0 ≤ tk.inside n 0 2147483647 ∧ tk.inside n 0 2147483647 ≤ 2147483647 := Go.Proofs.Ytgnpilaadggegaa.tk.inside_in _ _ _ (by omega)
  generalize tk.inside n 0 2147483647 = k at *
  have hl : lim k = k := by unfold lim; omega
  simp only [share_eq, hl]
  have c1 : cl 4607182418800017408 = one := cl_one
  have c2 : cl 9221120237041090561 = 0 := cl_nan (by decide)
  have c3 : cl 9218868437227405312 = one := by
    have e : rd 9218868437227405312 = .infinity false := by decide
    have f1 : fv 9218868437227405312 = (p2 2200 : Int) := by unfold fv; rw [e]; rfl
    have h := p2_lt (a := 1074) (b := 2200) (by omega)
    have h0 := p2_pos 1074
    have n0 : nn 9218868437227405312 = false := by decide
    unfold cl
    rw [n0, f1]
    generalize p2 1074 = x at *
    generalize p2 2200 = y at *
    rw [if_pos ⟨rfl, by omega⟩, if_pos (by omega)]
  rw [c1, c2, c3, cl_zero, shr_zero, shr_one k hk.1 hk.2]
  have main : ∀ a b : Nat, ck a b ≤ 0 → br (decide (shr k (cl a) ≥ 0)) (br (decide (shr k (cl a) ≤ shr k (cl b))) (br (decide (shr k (cl b) ≤ k)) (br (k == k) (br ((0 : Int) == 0) ((0 ≤ (0 : Int) ∧ (0 : Int) ≤ 4) ∧ br ((0 : Int) == 0) ((0 ≤ (1 : Int) ∧ (1 : Int) ≤ 4) ∧ br (k == k) True (true = false)) (true = false)) (true = false)) (true = false)) (true = false)) (true = false)) (true = false) := by
    intro a b h
    have m1 := (shr_le k (cl a) hk.1 hk.2 (cl_unit a)).1
    have m2 := (shr_le k (cl b) hk.1 hk.2 (cl_unit b)).2
    have m3 := shr_mono k (cl a) (cl b) (cl_le h)
    exact br_dec m1 (br_dec m3 (br_dec m2 (br_b (by simp) (br_b rfl ⟨by omega, br_b rfl ⟨by omega, br_b (by simp) trivial⟩⟩))))
  refine br_if (fun h => ?_) (fun h => ?_)
  · exact main b a (ck_gt h)
  · exact main a b (by omega)
theorem cleans_law (a : Nat) : Con Try.prog 10 [.float .f64 a] [] (.bool true) [] := by
  refine con_vc (E := EtWg) mixed (calls_envT tWg_ok) (lok_envT _ _) (M := noM) lm_none (Cleans_vc a) ?_
  simp only [ofNat_eq, toNat_cast, Nat.zero_add, Nat.add_zero, Nat.mul_one, List.drop_zero, bCells_len, bCells_drop, bCells_take, bCells_app, bCells_one, bCells_plain, List.length_replicate, List.length_append, List.length_take, List.length_drop, List.take_length, and_true, true_and, and_self, decide_true, List.length_nil, List.length_cons, Nat.sub_zero, dB_mk, dB_ro, List.take_zero]
  simp only [ge_f]
  simp only [le_f]
  simp only [gt_f, ne_f, nn0, nn1', fv0, fv1']
  obtain ⟨u1, u2⟩ := cl_unit a
  obtain ⟨m, i, e⟩ := u1
  have hn := num_nn e
  have h0 := nonneg_num e
  obtain ⟨r, r1, r2⟩ := add_zero_unit ⟨⟨m, i, e⟩, u2⟩
  obtain ⟨q, q1, q2, q3⟩ := inv_unit r2
  obtain ⟨q', q1', q2', q3'⟩ := inv_unit ⟨⟨m, i, e⟩, u2⟩
  have hz : (ck (cl a) (cl (cl a)) == 0) = true := by rw [cl_idem, ck_self]; rfl
  rw [hn]
  refine br_b (by simp [h0]) (br_b (by simp [u2]) ⟨r, r1, q, q1, br_b (by simp [q2, q3]) ?_⟩)
  refine br_intro (fun _ => br_b hz trivial) (fun _ => ⟨q', q1', br_b (by simp [q2', q3']) (br_b hz trivial)⟩)
theorem rises_law (a b : Nat) (n : Int) (_ : I64 n) : Con Try.prog 11 [.float .f64 a, .float .f64 b, .int .i64 n] [] (.bool true) [] := by
  refine con_vc (E := EtWg) mixed (calls_envT tWg_ok) (lok_envT _ _) (M := noM) lm_none (Rises_vc a b n) ?_
  simp only [ofNat_eq, toNat_cast, Nat.zero_add, Nat.add_zero, Nat.mul_one, List.drop_zero, bCells_len, bCells_drop, bCells_take, bCells_app, bCells_one, bCells_plain, List.length_replicate, List.length_append, List.length_take, List.length_drop, List.take_length, and_true, true_and, and_self, decide_true, List.length_nil, List.length_cons, Nat.sub_zero, dB_mk, dB_ro, List.take_zero]
  have hk : 0 ≤ tk.inside n 0 2147483647 ∧ tk.inside n 0 2147483647 ≤ 2147483647 := Go.Proofs.Ytgnpilaadggegaa.tk.inside_in _ _ _ (by omega)
  generalize tk.inside n 0 2147483647 = k at *
  rw [sec_near k hk.1 hk.2]
  have main : ∀ a b : Nat, ck a b ≤ 0 → br (decide (sec a ≤ sec b)) (br (decide (sec a ≥ 0)) (br (decide (sec b ≤ 2147483647)) (br (k == k) True (true = false)) (true = false)) (true = false)) (true = false) := by
    intro a b h
    exact br_dec (sec_le h) (br_dec (sec_in a).1 (br_dec (sec_in b).2 (br_b (by simp) trivial)))
  refine br_if (fun h => ⟨⟨‹_›, by omega, by omega, by omega⟩, main b a (ck_gt h)⟩) (fun h => ⟨⟨‹_›, by omega, by omega, by omega⟩, main a b (by omega)⟩)
end Go.Proofs.Ytgnpilaadggegaa.fl
