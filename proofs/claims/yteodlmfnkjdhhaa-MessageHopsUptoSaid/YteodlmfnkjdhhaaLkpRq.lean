/- Are two requests, two responses the same? -/
import Derived.Test.YteodlmfnkjdhhaaSz9
import Derived.Test.YteodlmfnkjdhhaaRows
import Derived.Test.YteodlmfnkjdhhaaLkpTy
import Derived.Test.YteodlmfnkjdhhaaLfbook
set_option linter.unusedSimpArgs false
set_option linter.unusedVariables false
namespace Go.Proofs.Yteodlmfnkjdhhaa.tk
open Go Go.Ev Go.Sy Go.RowKit Go.Proofs.Yteodlmfnkjdhhaa.gl
noncomputable def saB (r1 r2 : Row) : Bool := Go.Proofs.Yteodlmfnkjdhhaa.fb.sameSe (decF r1.cells) (decF r2.cells)
noncomputable def rqE (a b : RqY) (r1 r2 : Row) : Bool := strEq a.m b.m && (strEq a.s b.s && (strEq a.a b.a && (strEq a.p b.p && (saB r1 r2 && (a.k == b.k)))))
noncomputable def rsE (s t k l : Int) (r1 r2 : Row) : Bool := (s == t) && (saB r1 r2 && (k == l))
noncomputable def cKe : FuncId → List Value → List Row → Option (Prop × Value × List Row)
  | 26, [.slice (some ⟨0, 0, none⟩) n 2, .slice (some ⟨1, 0, none⟩) m 2], [r0, r1] => some (IsF r0 n ∧ IsF r1 m ∧ n ≤ maxLen, .bool (saB r0 r1), [])
  | _, _, _ => none
noncomputable abbrev EKe : Env := envC Try.prog cKe (fun f => Nat.beq f 26)
theorem rqE_vc (a b : RqY) (l m : List Fl) (v : Bool) : mcall EKe noM 60 12 [.agg ⟨rqCy a 0 l.length⟩, .agg ⟨rqCy b 1 m.length⟩] ⟨mkR (nums 0 [gRo enF l, gRo enF m]), 2⟩ (retIs 2 (.bool v) [gRo enF l, gRo enF m]) =
  (br (strEq a.1 b.1)
   (br (strEq a.2 b.2)
    (br (strEq a.3 b.3)
     (br (strEq a.4 b.4)
      ((((((0 : Nat) + List.length l * (2 : Nat) ≤ List.length (gC enF l) ∧ Plain (List.take (List.length l * (2 : Nat)) (List.drop (0 : Nat) (gC enF l)))) ∧ (((0 : Nat) + List.length m * (2 : Nat) ≤ List.length (gC enF m) ∧ Plain (List.take (List.length m * (2 : Nat)) (List.drop (0 : Nat) (gC enF m)))) ∧ True)) ∧ (True ∧ (IsF (Row.mk (List.take (List.length l * (2 : Nat)) (List.drop (0 : Nat) (gC enF l))) true (Ob.cells true)) (List.length l) ∧ (IsF (Row.mk (List.take (List.length m * (2 : Nat)) (List.drop (0 : Nat) (gC enF m))) true (Ob.cells true)) (List.length m) ∧ List.length l ≤ (9223372036854775807 : Nat)))))) ∧
      (br (saB (Row.mk (List.take (List.length l * (2 : Nat)) (List.drop (0 : Nat) (gC enF l))) true (Ob.cells true)) (Row.mk (List.take (List.length m * (2 : Nat)) (List.drop (0 : Nat) (gC enF m))) true (Ob.cells true)))
       ((v = (a.5 == b.5)) ∧
       ((Eq (α := List Value) (gC enF l) (gC enF l)) ∧
       ((Plain (gC enF l)) ∧
       ((Eq (α := List Value) (gC enF m) (gC enF m)) ∧
       ((Plain (gC enF m)) ∧
       True)))))
       ((v = false) ∧
       ((Eq (α := List Value) (gC enF l) (gC enF l)) ∧
       ((Plain (gC enF l)) ∧
       ((Eq (α := List Value) (gC enF m) (gC enF m)) ∧
       ((Plain (gC enF m)) ∧
       True)))))))
      ((v = false) ∧
      ((Eq (α := List Value) (gC enF l) (gC enF l)) ∧
      ((Plain (gC enF l)) ∧
      ((Eq (α := List Value) (gC enF m) (gC enF m)) ∧
      ((Plain (gC enF m)) ∧
      True))))))
     ((v = false) ∧
     ((Eq (α := List Value) (gC enF l) (gC enF l)) ∧
     ((Plain (gC enF l)) ∧
     ((Eq (α := List Value) (gC enF m) (gC enF m)) ∧
     ((Plain (gC enF m)) ∧
     True))))))
    ((v = false) ∧
    ((Eq (α := List Value) (gC enF l) (gC enF l)) ∧
    ((Plain (gC enF l)) ∧
    ((Eq (α := List Value) (gC enF m) (gC enF m)) ∧
    ((Plain (gC enF m)) ∧
    True))))))
   ((v = false) ∧
   ((Eq (α := List Value) (gC enF l) (gC enF l)) ∧
   ((Plain (gC enF l)) ∧
   ((Eq (α := List Value) (gC enF m) (gC enF m)) ∧
   ((Plain (gC enF m)) ∧
   True)))))) := by kernel_rfl
theorem rsE_vc (s t k k2 : Int) (l m : List Fl) (v : Bool) : mcall EKe noM 60 18 [.agg ⟨[.int .i64 s, .slice (some ⟨0, 0, none⟩) l.length 2, .int .i64 k]⟩, .agg ⟨[.int .i64 t, .slice (some ⟨1, 0, none⟩) m.length 2, .int .i64 k2]⟩] ⟨mkR (nums 0 [gRo enF l, gRo enF m]), 2⟩ (retIs 2 (.bool v) [gRo enF l, gRo enF m]) =
  (br (s == t)
   ((((((0 : Nat) + List.length l * (2 : Nat) ≤ List.length (gC enF l) ∧ Plain (List.take (List.length l * (2 : Nat)) (List.drop (0 : Nat) (gC enF l)))) ∧ (((0 : Nat) + List.length m * (2 : Nat) ≤ List.length (gC enF m) ∧ Plain (List.take (List.length m * (2 : Nat)) (List.drop (0 : Nat) (gC enF m)))) ∧ True)) ∧ (True ∧ (IsF (Row.mk (List.take (List.length l * (2 : Nat)) (List.drop (0 : Nat) (gC enF l))) true (Ob.cells true)) (List.length l) ∧ (IsF (Row.mk (List.take (List.length m * (2 : Nat)) (List.drop (0 : Nat) (gC enF m))) true (Ob.cells true)) (List.length m) ∧ List.length l ≤ (9223372036854775807 : Nat)))))) ∧
   (br (saB (Row.mk (List.take (List.length l * (2 : Nat)) (List.drop (0 : Nat) (gC enF l))) true (Ob.cells true)) (Row.mk (List.take (List.length m * (2 : Nat)) (List.drop (0 : Nat) (gC enF m))) true (Ob.cells true)))
    ((v = (k == k2)) ∧
    ((Eq (α := List Value) (gC enF l) (gC enF l)) ∧
    ((Plain (gC enF l)) ∧
    ((Eq (α := List Value) (gC enF m) (gC enF m)) ∧
    ((Plain (gC enF m)) ∧
    True)))))
    ((v = false) ∧
    ((Eq (α := List Value) (gC enF l) (gC enF l)) ∧
    ((Plain (gC enF l)) ∧
    ((Eq (α := List Value) (gC enF m) (gC enF m)) ∧
    ((Plain (gC enF m)) ∧
    True)))))))
   ((v = false) ∧
   ((Eq (α := List Value) (gC enF l) (gC enF l)) ∧
   ((Plain (gC enF l)) ∧
   ((Eq (α := List Value) (gC enF m) (gC enF m)) ∧
   ((Plain (gC enF m)) ∧
   True)))))) := by kernel_rfl
theorem cKe_ok : ∀ f a rows p v news, cKe f a rows = some (p, v, news) → p → Con Try.prog f a rows v (rows ++ news) := by
  intro f a rows p v news h hp
  have e : ∀ l, decF (gRo enF l).cells = l := fun l => decF_gC l
  unfold cKe at h
  split at h <;> simp only [Option.some.injEq, Prod.mk.injEq, reduceCtorEq] at h <;> obtain ⟨rfl, rfl, rfl⟩ := h
  · obtain ⟨⟨l, rfl, rfl⟩, ⟨m, rfl, rfl⟩, h1⟩ := hp
    simp only [saB, e, List.append_nil]
    exact Go.Proofs.Yteodlmfnkjdhhaa.fb.same_con l m h1
theorem saB_mk (l m : List Fl) (a b : Bool) (o p : Ob) : saB ⟨gC enF l, a, o⟩ ⟨gC enF m, b, p⟩ = Go.Proofs.Yteodlmfnkjdhhaa.fb.sameSe l m := by unfold saB; simp only; rw [decF_gC, decF_gC]
theorem br_val {b x y : Bool} (r : Bool) : (br b (r = x) (r = y)) ↔ r = (if b then x else y) := by cases b <;> simp [br]
theorem rqE_con (a b : RqY) (l m : List Fl) (hl : l.length ≤ maxLen) :
    Con Try.prog 12 [.agg ⟨rqCy a 0 l.length⟩, .agg ⟨rqCy b 1 m.length⟩] [gRo enF l, gRo enF m] (.bool (rqE a b (gRo enF l) (gRo enF m))) [gRo enF l, gRo enF m] := by
  refine con_vc (E := EKe) mixed (calls_envC cKe_ok) (lok_envC _ _ _) (M := noM) lm_none (rqE_vc a b l m _) ?_
  have hm : maxLen = 9223372036854775807 := by unfold maxLen; rfl
  simp only [ofNat_eq, toNat_cast, Nat.zero_add, Nat.add_zero, Nat.mul_one, List.drop_zero, bCells_len, bCells_drop, bCells_take, bCells_app, bCells_one, bCells_plain, List.length_replicate, List.length_append, List.length_take, List.length_drop, List.take_length, and_true, true_and, and_self, decide_true, List.length_nil, List.length_cons, Nat.sub_zero, dB_mk, dB_ro, List.take_zero, fPl, fTake, fLen]
  refine br_intro (fun h1 => br_intro (fun h2 => br_intro (fun h3 => br_intro (fun h4 => ⟨⟨⟨Nat.le_refl _, Nat.le_refl _⟩, isF_mk _ _ rfl, isF_mk _ _ rfl, by omega⟩, br_intro (fun h5 => ?_) (fun h5 => ?_)⟩) (fun h4 => ?_)) (fun h3 => ?_)) (fun h2 => ?_)) (fun h1 => ?_)
  all_goals (unfold rqE gRo; simp_all)
theorem rsE_con (s t k k2 : Int) (l m : List Fl) (hl : l.length ≤ maxLen) :
    Con Try.prog 18 [.agg ⟨[.int .i64 s, .slice (some ⟨0, 0, none⟩) l.length 2, .int .i64 k]⟩, .agg ⟨[.int .i64 t, .slice (some ⟨1, 0, none⟩) m.length 2, .int .i64 k2]⟩] [gRo enF l, gRo enF m] (.bool (rsE s t k k2 (gRo enF l) (gRo enF m))) [gRo enF l, gRo enF m] := by
  refine con_vc (E := EKe) mixed (calls_envC cKe_ok) (lok_envC _ _ _) (M := noM) lm_none (rsE_vc s t k k2 l m _) ?_
  have hm : maxLen = 9223372036854775807 := by unfold maxLen; rfl
  simp only [ofNat_eq, toNat_cast, Nat.zero_add, Nat.add_zero, Nat.mul_one, List.drop_zero, bCells_len, bCells_drop, bCells_take, bCells_app, bCells_one, bCells_plain, List.length_replicate, List.length_append, List.length_take, List.length_drop, List.take_length, and_true, true_and, and_self, decide_true, List.length_nil, List.length_cons, Nat.sub_zero, dB_mk, dB_ro, List.take_zero, fPl, fTake, fLen]
  refine br_intro (fun h1 => ⟨⟨⟨Nat.le_refl _, Nat.le_refl _⟩, isF_mk _ _ rfl, isF_mk _ _ rfl, by omega⟩, br_intro (fun h5 => ?_) (fun h5 => ?_)⟩) (fun h1 => ?_)
  all_goals (unfold rsE gRo; simp_all)
end Go.Proofs.Yteodlmfnkjdhhaa.tk
