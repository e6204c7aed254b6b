/- Are two requests, two entries the same? -/
import Derived.Test.YthkidlkcjohppaaSz9
import Derived.Test.YthkidlkcjohppaaRows
import Derived.Test.YthkidlkcjohppaaLmgSame
import Derived.Test.YthkidlkcjohppaaLfbook
set_option linter.unusedSimpArgs false
set_option linter.unusedVariables false
namespace Go.Proofs.Ythkidlkcjohppaa.tk
open Go Go.Ev Go.Sy Go.RowKit Go.Proofs.Ythkidlkcjohppaa.gl
noncomputable def saB (r1 r2 : Row) : Bool := Go.Proofs.Ythkidlkcjohppaa.fb.sameSe (decF r1.cells) (decF r2.cells)
noncomputable def rqE (a b : RqY) (r1 r2 : Row) : Bool := strEq a.m b.m && (strEq a.s b.s && (strEq a.a b.a && (strEq a.p b.p && (saB r1 r2 && (a.k == b.k)))))
noncomputable def rsE (s t k l : Int) (r1 r2 : Row) : Bool := (s == t) && (saB r1 r2 && (k == l))
noncomputable def enE (a b : EnY) (r1 r2 r3 r4 : Row) : Bool := rqE ⟨a.m, a.s, a.a, a.p, a.k⟩ ⟨b.m, b.s, b.a, b.p, b.k⟩ r1 r3 && (rsE a.st b.st a.k2 b.k2 r2 r4 && (strEq a.body b.body && ((a.asked == b.asked) && (a.came == b.came))))
noncomputable def cKe : FuncId → List Value → List Row → Option (Prop × Value × List Row)
  | 15, [.slice (some ⟨0, 0, none⟩) n 2, .slice (some ⟨1, 0, none⟩) m 2], [r0, r1] => some (IsF r0 n ∧ IsF r1 m ∧ n ≤ maxLen, .bool (saB r0 r1), [])
  | _, _, _ => none
noncomputable abbrev EKe : Env := envC Try.prog cKe (fun f => Nat.beq f 15)
noncomputable def cKf : FuncId → List Value → List Row → Option (Prop × Value × List Row)
  | 19, [.agg ⟨[.string m, .string s, .string a, .string p, .slice (some ⟨0, 0, none⟩) n 2, .int .i64 k]⟩, .agg ⟨[.string m2, .string s2, .string a2, .string p2, .slice (some ⟨1, 0, none⟩) n2 2, .int .i64 k2]⟩], [r0, r1] => some (IsF r0 n ∧ IsF r1 n2 ∧ n ≤ maxLen, .bool (rqE ⟨m, s, a, p, k⟩ ⟨m2, s2, a2, p2, k2⟩ r0 r1), [])
  | 38, [.agg ⟨[.int .i64 s, .slice (some ⟨0, 0, none⟩) n 2, .int .i64 k]⟩, .agg ⟨[.int .i64 t, .slice (some ⟨1, 0, none⟩) n2 2, .int .i64 k2]⟩], [r0, r1] => some (IsF r0 n ∧ IsF r1 n2 ∧ n ≤ maxLen, .bool (rsE s t k k2 r0 r1), [])
  | _, _, _ => none
noncomputable abbrev EKf : Env := envC Try.prog cKf (fun f => Nat.beq f 19 || Nat.beq f 38)
theorem rqE_vc (a b : RqY) (l m : List Fl) (v : Bool) : mcall EKe noM 60 19 [.agg ⟨rqCy a 0 l.length⟩, .agg ⟨rqCy b 1 m.length⟩] ⟨mkR (nums 0 [gRo enF l, gRo enF m]), 2⟩ (retIs 2 (.bool v) [gRo enF l, gRo enF m]) =
  (br (strEq a.1 b.1)
   (br (strEq a.2 b.2)
    (br (strEq a.3 b.3)
     (br (strEq a.4 b.4)
      ((((((0 : Nat) + List.length l * (2 : Nat) ≤ List.length (gC enF l) ∧ Plain (List.take (List.length l * (2 : Nat)) (List.drop (0 : Nat) (gC enF l)))) ∧ (((0 : Nat) + List.length m * (2 : Nat) ≤ List.length (gC enF m) ∧ Plain (List.take (List.length m * (2 : Nat)) (List.drop (0 : Nat) (gC enF m)))) ∧ True)) ∧ (True ∧ (IsF (Row.mk (List.take (List.length l * (2 : Nat)) (List.drop (0 : Nat) (gC enF l))) true (Ob.cells true)) (List.length l) ∧ (IsF (Row.mk (List.take (List.length m * (2 : Nat)) (List.drop (0 : Nat) (gC enF m))) true (Ob.cells true)) (List.length m) ∧ List.length l ≤ (9223372036854775807 : Nat)))))) ∧
      (br (saB (Row.mk (List.take (List.length l * (2 : Nat)) (List.drop (0 : Nat) (gC enF l))) true (Ob.cells true)) (Row.mk (List.take (List.length m * (2 : Nat)) (List.drop (0 : Nat) (gC enF m))) true (Ob.cells true)))
       ((v = (a.5 == b.5)) ∧
       ((Eq (α := List Value) (gC enF l) (gC enF l)) ∧
       ((Plain (gC enF l)) ∧
       ((Eq (α := List Value) (gC enF m) (gC enF m)) ∧
       ((Plain (gC enF m)) ∧
       True)))))
       ((v = false) ∧
       ((Eq (α := List Value) (gC enF l) (gC enF l)) ∧
       ((Plain (gC enF l)) ∧
       ((Eq (α := List Value) (gC enF m) (gC enF m)) ∧
       ((Plain (gC enF m)) ∧
       True)))))))
      ((v = false) ∧
      ((Eq (α := List Value) (gC enF l) (gC enF l)) ∧
      ((Plain (gC enF l)) ∧
      ((Eq (α := List Value) (gC enF m) (gC enF m)) ∧
      ((Plain (gC enF m)) ∧
      True))))))
     ((v = false) ∧
     ((Eq (α := List Value) (gC enF l) (gC enF l)) ∧
     ((Plain (gC enF l)) ∧
     ((Eq (α := List Value) (gC enF m) (gC enF m)) ∧
     ((Plain (gC enF m)) ∧
     True))))))
    ((v = false) ∧
    ((Eq (α := List Value) (gC enF l) (gC enF l)) ∧
    ((Plain (gC enF l)) ∧
    ((Eq (α := List Value) (gC enF m) (gC enF m)) ∧
    ((Plain (gC enF m)) ∧
    True))))))
   ((v = false) ∧
   ((Eq (α := List Value) (gC enF l) (gC enF l)) ∧
   ((Plain (gC enF l)) ∧
   ((Eq (α := List Value) (gC enF m) (gC enF m)) ∧
   ((Plain (gC enF m)) ∧
   True)))))) := by kernel_rfl
theorem rsE_vc (s t k k2 : Int) (l m : List Fl) (v : Bool) : mcall EKe noM 60 38 [.agg ⟨[.int .i64 s, .slice (some ⟨0, 0, none⟩) l.length 2, .int .i64 k]⟩, .agg ⟨[.int .i64 t, .slice (some ⟨1, 0, none⟩) m.length 2, .int .i64 k2]⟩] ⟨mkR (nums 0 [gRo enF l, gRo enF m]), 2⟩ (retIs 2 (.bool v) [gRo enF l, gRo enF m]) =
  (br (s == t)
   ((((((0 : Nat) + List.length l * (2 : Nat) ≤ List.length (gC enF l) ∧ Plain (List.take (List.length l * (2 : Nat)) (List.drop (0 : Nat) (gC enF l)))) ∧ (((0 : Nat) + List.length m * (2 : Nat) ≤ List.length (gC enF m) ∧ Plain (List.take (List.length m * (2 : Nat)) (List.drop (0 : Nat) (gC enF m)))) ∧ True)) ∧ (True ∧ (IsF (Row.mk (List.take (List.length l * (2 : Nat)) (List.drop (0 : Nat) (gC enF l))) true (Ob.cells true)) (List.length l) ∧ (IsF (Row.mk (List.take (List.length m * (2 : Nat)) (List.drop (0 : Nat) (gC enF m))) true (Ob.cells true)) (List.length m) ∧ List.length l ≤ (9223372036854775807 : Nat)))))) ∧
   (br (saB (Row.mk (List.take (List.length l * (2 : Nat)) (List.drop (0 : Nat) (gC enF l))) true (Ob.cells true)) (Row.mk (List.take (List.length m * (2 : Nat)) (List.drop (0 : Nat) (gC enF m))) true (Ob.cells true)))
    ((v = (k == k2)) ∧
    ((Eq (α := List Value) (gC enF l) (gC enF l)) ∧
    ((Plain (gC enF l)) ∧
    ((Eq (α := List Value) (gC enF m) (gC enF m)) ∧
    ((Plain (gC enF m)) ∧
    True)))))
    ((v = false) ∧
    ((Eq (α := List Value) (gC enF l) (gC enF l)) ∧
    ((Plain (gC enF l)) ∧
    ((Eq (α := List Value) (gC enF m) (gC enF m)) ∧
    ((Plain (gC enF m)) ∧
    True)))))))
   ((v = false) ∧
   ((Eq (α := List Value) (gC enF l) (gC enF l)) ∧
   ((Plain (gC enF l)) ∧
   ((Eq (α := List Value) (gC enF m) (gC enF m)) ∧
   ((Plain (gC enF m)) ∧
   True)))))) := by kernel_rfl
theorem enE_vc (a b : EnY) (l m l2 m2 : List Fl) (v : Bool) : mcall EKf noM 60 20 [.agg ⟨enCy a 0 l.length 1 m.length⟩, .agg ⟨enCy b 2 l2.length 3 m2.length⟩] ⟨mkR (nums 0 [gRo enF l, gRo enF m, gRo enF l2, gRo enF m2]), 4⟩ (retIs 4 (.bool v) [gRo enF l, gRo enF m, gRo enF l2, gRo enF m2]) =
  (((((True ∧ (True ∧ (True ∧ (True ∧ (((0 : Nat) + List.length l * (2 : Nat) ≤ List.length (gC enF l) ∧ Plain (List.take (List.length l * (2 : Nat)) (List.drop (0 : Nat) (gC enF l)))) ∧ (True ∧ True)))))) ∧ ((True ∧ (True ∧ (True ∧ (True ∧ (((0 : Nat) + List.length l2 * (2 : Nat) ≤ List.length (gC enF l2) ∧ Plain (List.take (List.length l2 * (2 : Nat)) (List.drop (0 : Nat) (gC enF l2)))) ∧ (True ∧ True)))))) ∧ True)) ∧ (True ∧ (IsF (Row.mk (List.take (List.length l * (2 : Nat)) (List.drop (0 : Nat) (gC enF l))) true (Ob.cells true)) (List.length l) ∧ (IsF (Row.mk (List.take (List.length l2 * (2 : Nat)) (List.drop (0 : Nat) (gC enF l2))) true (Ob.cells true)) (List.length l2) ∧ List.length l ≤ (9223372036854775807 : Nat)))))) ∧
  (br (rqE (RqY.mk (EnY.m a) (EnY.s a) (EnY.a a) (EnY.p a) (EnY.k a)) (RqY.mk (EnY.m b) (EnY.s b) (EnY.a b) (EnY.p b) (EnY.k b)) (Row.mk (List.take (List.length l * (2 : Nat)) (List.drop (0 : Nat) (gC enF l))) true (Ob.cells true)) (Row.mk (List.take (List.length l2 * (2 : Nat)) (List.drop (0 : Nat) (gC enF l2))) true (Ob.cells true)))
   (((((True ∧ (((0 : Nat) + List.length m * (2 : Nat) ≤ List.length (gC enF m) ∧ Plain (List.take (List.length m * (2 : Nat)) (List.drop (0 : Nat) (gC enF m)))) ∧ (True ∧ True))) ∧ ((True ∧ (((0 : Nat) + List.length m2 * (2 : Nat) ≤ List.length (gC enF m2) ∧ Plain (List.take (List.length m2 * (2 : Nat)) (List.drop (0 : Nat) (gC enF m2)))) ∧ (True ∧ True))) ∧ True)) ∧ (True ∧ (IsF (Row.mk (List.take (List.length m * (2 : Nat)) (List.drop (0 : Nat) (gC enF m))) true (Ob.cells true)) (List.length m) ∧ (IsF (Row.mk (List.take (List.length m2 * (2 : Nat)) (List.drop (0 : Nat) (gC enF m2))) true (Ob.cells true)) (List.length m2) ∧ List.length m ≤ (9223372036854775807 : Nat)))))) ∧
   (br (rsE a.6 b.6 a.7 b.7 (Row.mk (List.take (List.length m * (2 : Nat)) (List.drop (0 : Nat) (gC enF m))) true (Ob.cells true)) (Row.mk (List.take (List.length m2 * (2 : Nat)) (List.drop (0 : Nat) (gC enF m2))) true (Ob.cells true)))
    (br (strEq a.8 b.8)
     (br (a.9 == b.9)
      ((v = (a.10 == b.10)) ∧
      ((Eq (α := List Value) (gC enF l) (gC enF l)) ∧
      ((Plain (gC enF l)) ∧
      ((Eq (α := List Value) (gC enF m) (gC enF m)) ∧
      ((Plain (gC enF m)) ∧
      ((Eq (α := List Value) (gC enF l2) (gC enF l2)) ∧
      ((Plain (gC enF l2)) ∧
      ((Eq (α := List Value) (gC enF m2) (gC enF m2)) ∧
      ((Plain (gC enF m2)) ∧
      True)))))))))
      ((v = false) ∧
      ((Eq (α := List Value) (gC enF l) (gC enF l)) ∧
      ((Plain (gC enF l)) ∧
      ((Eq (α := List Value) (gC enF m) (gC enF m)) ∧
      ((Plain (gC enF m)) ∧
      ((Eq (α := List Value) (gC enF l2) (gC enF l2)) ∧
      ((Plain (gC enF l2)) ∧
      ((Eq (α := List Value) (gC enF m2) (gC enF m2)) ∧
      ((Plain (gC enF m2)) ∧
      True))))))))))
     ((v = false) ∧
     ((Eq (α := List Value) (gC enF l) (gC enF l)) ∧
     ((Plain (gC enF l)) ∧
     ((Eq (α := List Value) (gC enF m) (gC enF m)) ∧
     ((Plain (gC enF m)) ∧
     ((Eq (α := List Value) (gC enF l2) (gC enF l2)) ∧
     ((Plain (gC enF l2)) ∧
     ((Eq (α := List Value) (gC enF m2) (gC enF m2)) ∧
     ((Plain (gC enF m2)) ∧
     True))))))))))
    ((v = false) ∧
    ((Eq (α := List Value) (gC enF l) (gC enF l)) ∧
    ((Plain (gC enF l)) ∧
    ((Eq (α := List Value) (gC enF m) (gC enF m)) ∧
    ((Plain (gC enF m)) ∧
    ((Eq (α := List Value) (gC enF l2) (gC enF l2)) ∧
    ((Plain (gC enF l2)) ∧
    ((Eq (α := List Value) (gC enF m2) (gC enF m2)) ∧
    ((Plain (gC enF m2)) ∧
    True)))))))))))
   ((v = false) ∧
   ((Eq (α := List Value) (gC enF l) (gC enF l)) ∧
   ((Plain (gC enF l)) ∧
   ((Eq (α := List Value) (gC enF m) (gC enF m)) ∧
   ((Plain (gC enF m)) ∧
   ((Eq (α := List Value) (gC enF l2) (gC enF l2)) ∧
   ((Plain (gC enF l2)) ∧
   ((Eq (α := List Value) (gC enF m2) (gC enF m2)) ∧
   ((Plain (gC enF m2)) ∧
   True))))))))))) := by kernel_rfl
theorem cKe_ok : ∀ f a rows p v news, cKe f a rows = some (p, v, news) → p → Con Try.prog f a rows v (rows ++ news) := by
  intro f a rows p v news h hp
  have e : ∀ l, decF (gRo enF l).cells = l := fun l => decF_gC l
  unfold cKe at h
  split at h <;> simp only [Option.some.injEq, Prod.mk.injEq, reduceCtorEq] at h <;> obtain ⟨rfl, rfl, rfl⟩ := h
  · obtain ⟨⟨l, rfl, rfl⟩, ⟨m, rfl, rfl⟩, h1⟩ := hp
    simp only [saB, e, List.append_nil]
    exact Go.Proofs.Ythkidlkcjohppaa.fb.same_con l m h1
theorem saB_mk (l m : List Fl) (a b : Bool) (o p : Ob) : saB ⟨gC enF l, a, o⟩ ⟨gC enF m, b, p⟩ = Go.Proofs.Ythkidlkcjohppaa.fb.sameSe l m := by unfold saB; simp only; rw [decF_gC, decF_gC]
theorem br_val {b x y : Bool} (r : Bool) : (br b (r = x) (r = y)) ↔ r = (if b then x else y) := by cases b <;> simp [br]
theorem rqE_con (a b : RqY) (l m : List Fl) (hl : l.length ≤ maxLen) :
    Con Try.prog 19 [.agg ⟨rqCy a 0 l.length⟩, .agg ⟨rqCy b 1 m.length⟩] [gRo enF l, gRo enF m] (.bool (rqE a b (gRo enF l) (gRo enF m))) [gRo enF l, gRo enF m] := by
  refine con_vc (E := EKe) mixed (calls_envC cKe_ok) (lok_envC _ _ _) (M := noM) lm_none (rqE_vc a b l m _) ?_
  have hm : maxLen = 9223372036854775807 := by unfold maxLen; rfl
  simp only [ofNat_eq, toNat_cast, Nat.zero_add, Nat.add_zero, Nat.mul_one, List.drop_zero, bCells_len, bCells_drop, bCells_take, bCells_app, bCells_one, bCells_plain, List.length_replicate, List.length_append, List.length_take, List.length_drop, List.take_length, and_true, true_and, and_self, decide_true, List.length_nil, List.length_cons, Nat.sub_zero, dB_mk, dB_ro, List.take_zero, fPl, fTake, fLen]
  refine br_intro (fun h1 => br_intro (fun h2 => br_intro (fun h3 => br_intro (fun h4 => ⟨⟨⟨Nat.le_refl _, Nat.le_refl _⟩, isF_mk _ _ rfl, isF_mk _ _ rfl, by omega⟩, br_intro (fun h5 => ?_) (fun h5 => ?_)⟩) (fun h4 => ?_)) (fun h3 => ?_)) (fun h2 => ?_)) (fun h1 => ?_)
  all_goals (unfold rqE gRo; simp_all)
theorem rsE_con (s t k k2 : Int) (l m : List Fl) (hl : l.length ≤ maxLen) :
    Con Try.prog 38 [.agg ⟨[.int .i64 s, .slice (some ⟨0, 0, none⟩) l.length 2, .int .i64 k]⟩, .agg ⟨[.int .i64 t, .slice (some ⟨1, 0, none⟩) m.length 2, .int .i64 k2]⟩] [gRo enF l, gRo enF m] (.bool (rsE s t k k2 (gRo enF l) (gRo enF m))) [gRo enF l, gRo enF m] := by
  refine con_vc (E := EKe) mixed (calls_envC cKe_ok) (lok_envC _ _ _) (M := noM) lm_none (rsE_vc s t k k2 l m _) ?_
  have hm : maxLen = 9223372036854775807 := by unfold maxLen; rfl
  simp only [ofNat_eq, toNat_cast, Nat.zero_add, Nat.add_zero, Nat.mul_one, List.drop_zero, bCells_len, bCells_drop, bCells_take, bCells_app, bCells_one, bCells_plain, List.length_replicate, List.length_append, List.length_take, List.length_drop, List.take_length, and_true, true_and, and_self, decide_true, List.length_nil, List.length_cons, Nat.sub_zero, dB_mk, dB_ro, List.take_zero, fPl, fTake, fLen]
  refine br_intro (fun h1 => ⟨⟨⟨Nat.le_refl _, Nat.le_refl _⟩, isF_mk _ _ rfl, isF_mk _ _ rfl, by omega⟩, br_intro (fun h5 => ?_) (fun h5 => ?_)⟩) (fun h1 => ?_)
  all_goals (unfold rsE gRo; simp_all)
theorem cKf_ok : ∀ f a rows p v news, cKf f a rows = some (p, v, news) → p → Con Try.prog f a rows v (rows ++ news) := by
  intro f a rows p v news h hp
  unfold cKf at h
  split at h <;> simp only [Option.some.injEq, Prod.mk.injEq, reduceCtorEq] at h <;> obtain ⟨rfl, rfl, rfl⟩ := h
  · obtain ⟨⟨l, rfl, rfl⟩, ⟨m, rfl, rfl⟩, h1⟩ := hp
    exact rqE_con ⟨_, _, _, _, _⟩ ⟨_, _, _, _, _⟩ l m h1
  · obtain ⟨⟨l, rfl, rfl⟩, ⟨m, rfl, rfl⟩, h1⟩ := hp
    exact rsE_con _ _ _ _ l m h1
theorem enE_con (a b : EnY) (l m l2 m2 : List Fl) (h1 : l.length ≤ maxLen) (h2 : m.length ≤ maxLen) :
    Con Try.prog 20 [.agg ⟨enCy a 0 l.length 1 m.length⟩, .agg ⟨enCy b 2 l2.length 3 m2.length⟩] [gRo enF l, gRo enF m, gRo enF l2, gRo enF m2] (.bool (enE a b (gRo enF l) (gRo enF m) (gRo enF l2) (gRo enF m2))) [gRo enF l, gRo enF m, gRo enF l2, gRo enF m2] := by
  refine con_vc (E := EKf) mixed (calls_envC cKf_ok) (lok_envC _ _ _) (M := noM) lm_none (enE_vc a b l m l2 m2 _) ?_
  have hm : maxLen = 9223372036854775807 := by unfold maxLen; rfl
  simp only [ofNat_eq, toNat_cast, Nat.zero_add, Nat.add_zero, Nat.mul_one, List.drop_zero, bCells_len, bCells_drop, bCells_take, bCells_app, bCells_one, bCells_plain, List.length_replicate, List.length_append, List.length_take, List.length_drop, List.take_length, and_true, true_and, and_self, decide_true, List.length_nil, List.length_cons, Nat.sub_zero, dB_mk, dB_ro, List.take_zero, fPl, fTake, fLen]
  refine ⟨⟨⟨Nat.le_refl _, Nat.le_refl _⟩, isF_mk _ _ rfl, isF_mk _ _ rfl, by omega⟩, br_intro (fun h1 => ⟨⟨⟨Nat.le_refl _, Nat.le_refl _⟩, isF_mk _ _ rfl, isF_mk _ _ rfl, by omega⟩, br_intro (fun h2 => br_intro (fun h3 => br_intro (fun h4 => ?_) (fun h4 => ?_)) (fun h3 => ?_)) (fun h2 => ?_)⟩) (fun h1 => ?_)⟩
  all_goals (unfold enE gRo; simp_all)
end Go.Proofs.Ythkidlkcjohppaa.tk
