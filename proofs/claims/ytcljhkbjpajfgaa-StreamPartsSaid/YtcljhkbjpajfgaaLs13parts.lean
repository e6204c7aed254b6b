/- The law of events in parts. -/
import Derived.Test.YtcljhkbjpajfgaaSz9
import Derived.Test.YtcljhkbjpajfgaaRows
import Derived.Test.YtcljhkbjpajfgaaLs13run
set_option linter.unusedSimpArgs false
set_option linter.unusedVariables false
namespace Go.Proofs.Ytcljhkbjpajfgaa.s13
open Go Go.Ev Go.Sy Go.RowKit Go.Proofs.Ytcljhkbjpajfgaa.ic
noncomputable def cR : FuncId → List Value → List Row → Option (Prop × Value × List Row)
  | 10, [.int .i64 s, .slice (some ⟨0, 0, none⟩) n 1], [r0] => some (IsI .i64 r0 n ∧ n ≤ maxLen, runT s (dI r0), [])
  | 3, [], [] => some (True, .bool true, [])
  | _, _, _ => none
def kR (f : FuncId) : Bool := Nat.beq f 10 || Nat.beq f 3
noncomputable abbrev ER : Env := envC Try.prog cR kR
theorem parts_vc (s : Int) (a b : List Int) : mcall ER noM 60 8 [.int .i64 s, slc 0 a.length, slc 1 b.length] ⟨mkR (nums 0 [iRo .i64 a, iRo .i64 b]), 2⟩ (retIs 2 (.bool true) [iRo .i64 a, iRo .i64 b]) =
  (br (decide (Int.ofNat (List.length a) > (50 : Int)))
   (((True ∧ (True ∧ True))) ∧
   ((true = true) ∧
   ((Eq (α := List Value) (iCells IntKind.i64 a) (iCells IntKind.i64 a)) ∧
   ((Plain (iCells IntKind.i64 a)) ∧
   ((Eq (α := List Value) (iCells IntKind.i64 b) (iCells IntKind.i64 b)) ∧
   ((Plain (iCells IntKind.i64 b)) ∧
   True))))))
   (br (decide (Int.ofNat (List.length b) > (50 : Int)))
    (((True ∧ (True ∧ True))) ∧
    ((true = true) ∧
    ((Eq (α := List Value) (iCells IntKind.i64 a) (iCells IntKind.i64 a)) ∧
    ((Plain (iCells IntKind.i64 a)) ∧
    ((Eq (α := List Value) (iCells IntKind.i64 b) (iCells IntKind.i64 b)) ∧
    ((Plain (iCells IntKind.i64 b)) ∧
    True))))))
    ((((True ∧ (((0 : Nat) + List.length a * (1 : Nat) ≤ List.length (iCells IntKind.i64 a) ∧ Plain (List.take (List.length a * (1 : Nat)) (List.drop (0 : Nat) (iCells IntKind.i64 a)))) ∧ True)) ∧ (True ∧ (IsI IntKind.i64 (Row.mk (List.take (List.length a * (1 : Nat)) (List.drop (0 : Nat) (iCells IntKind.i64 a))) true (Ob.cells true)) (List.length a) ∧ List.length a ≤ (9223372036854775807 : Nat))))) ∧
    ((((True ∧ (((0 : Nat) + List.length b * (1 : Nat) ≤ List.length (iCells IntKind.i64 b) ∧ Plain (List.take (List.length b * (1 : Nat)) (List.drop (0 : Nat) (iCells IntKind.i64 b)))) ∧ True)) ∧ (True ∧ (IsI IntKind.i64 (Row.mk (List.take (List.length b * (1 : Nat)) (List.drop (0 : Nat) (iCells IntKind.i64 b))) true (Ob.cells true)) (List.length b) ∧ List.length b ≤ (9223372036854775807 : Nat))))) ∧
    (br (decide ((0 : Nat) + List.length a * (1 : Nat) ≤ List.length (iCells IntKind.i64 a)))
     (br (allOne (List.take (List.length a * (1 : Nat)) (List.drop (0 : Nat) (iCells IntKind.i64 a))))
      (br (decide ((0 : Nat) + List.length a ≤ (16777216 : Nat)))
       (br (decide ((0 : Nat) < (0 : Nat) + List.length a ∨ List.length (List.flatten (List.replicate (0 : Nat) (Array.toList (Value.cells (Value.int IntKind.i64 (0 : Int)))))) = (0 : Nat)))
        (br (decide ((0 : Nat) + List.length b * (1 : Nat) ≤ List.length (iCells IntKind.i64 b)))
         (br (allOne (List.take (List.length b * (1 : Nat)) (List.drop (0 : Nat) (iCells IntKind.i64 b))))
          (br (decide ((0 : Nat) + List.length a + List.length b ≤ (16777216 : Nat)))
           (br (decide ((0 : Nat) < (0 : Nat) + List.length a + List.length b ∨ List.length ([] ++ List.take (List.length a * (1 : Nat)) (List.drop (0 : Nat) (iCells IntKind.i64 a))) = (0 : Nat)))
            (br (decide ((0 : Nat) + ((0 : Nat) + List.length a) * (1 : Nat) ≤ List.length ([] ++ List.take (List.length a * (1 : Nat)) (List.drop (0 : Nat) (iCells IntKind.i64 a)))))
             ((((True ∧ (((0 : Nat) + ((0 : Nat) + List.length a + List.length b) * (1 : Nat) ≤ List.length (List.take (((0 : Nat) + List.length a) * (1 : Nat)) (List.drop (0 : Nat) ([] ++ List.take (List.length a * (1 : Nat)) (List.drop (0 : Nat) (iCells IntKind.i64 a)))) ++ List.take (List.length b * (1 : Nat)) (List.drop (0 : Nat) (iCells IntKind.i64 b))) ∧ Plain (List.take (((0 : Nat) + List.length a + List.length b) * (1 : Nat)) (List.drop (0 : Nat) (List.take (((0 : Nat) + List.length a) * (1 : Nat)) (List.drop (0 : Nat) ([] ++ List.take (List.length a * (1 : Nat)) (List.drop (0 : Nat) (iCells IntKind.i64 a)))) ++ List.take (List.length b * (1 : Nat)) (List.drop (0 : Nat) (iCells IntKind.i64 b)))))) ∧ True)) ∧ (True ∧ (IsI IntKind.i64 (Row.mk (List.take (((0 : Nat) + List.length a + List.length b) * (1 : Nat)) (List.drop (0 : Nat) (List.take (((0 : Nat) + List.length a) * (1 : Nat)) (List.drop (0 : Nat) ([] ++ List.take (List.length a * (1 : Nat)) (List.drop (0 : Nat) (iCells IntKind.i64 a)))) ++ List.take (List.length b * (1 : Nat)) (List.drop (0 : Nat) (iCells IntKind.i64 b))))) true (Ob.cells true)) ((0 : Nat) + List.length a + List.length b) ∧ (0 : Nat) + List.length a + List.length b ≤ (9223372036854775807 : Nat))))) ∧
             (br (decide ((↑(runL s (dI (Row.mk (List.take (List.length a * (1 : Nat)) (List.drop (0 : Nat) (iCells IntKind.i64 a))) true (Ob.cells true)))).2 : Int) < Int.ofNat (List.length a)))
              (br ((runL s (dI (Row.mk (List.take (((0 : Nat) + List.length a + List.length b) * (1 : Nat)) (List.drop (0 : Nat) (List.take (((0 : Nat) + List.length a) * (1 : Nat)) (List.drop (0 : Nat) ([] ++ List.take (List.length a * (1 : Nat)) (List.drop (0 : Nat) (iCells IntKind.i64 a)))) ++ List.take (List.length b * (1 : Nat)) (List.drop (0 : Nat) (iCells IntKind.i64 b))))) true (Ob.cells true)))).1 == (runL s (dI (Row.mk (List.take (List.length a * (1 : Nat)) (List.drop (0 : Nat) (iCells IntKind.i64 a))) true (Ob.cells true)))).1)
               (br ((↑(runL s (dI (Row.mk (List.take (((0 : Nat) + List.length a + List.length b) * (1 : Nat)) (List.drop (0 : Nat) (List.take (((0 : Nat) + List.length a) * (1 : Nat)) (List.drop (0 : Nat) ([] ++ List.take (List.length a * (1 : Nat)) (List.drop (0 : Nat) (iCells IntKind.i64 a)))) ++ List.take (List.length b * (1 : Nat)) (List.drop (0 : Nat) (iCells IntKind.i64 b))))) true (Ob.cells true)))).2 : Int) == (↑(runL s (dI (Row.mk (List.take (List.length a * (1 : Nat)) (List.drop (0 : Nat) (iCells IntKind.i64 a))) true (Ob.cells true)))).2 : Int))
                (((True ∧ (True ∧ True))) ∧
                ((true = true) ∧
                ((Eq (α := List Value) (iCells IntKind.i64 a) (iCells IntKind.i64 a)) ∧
                ((Plain (iCells IntKind.i64 a)) ∧
                ((Eq (α := List Value) (iCells IntKind.i64 b) (iCells IntKind.i64 b)) ∧
                ((Plain (iCells IntKind.i64 b)) ∧
                True))))))
                ((true = false) ∧
                ((Eq (α := List Value) (iCells IntKind.i64 a) (iCells IntKind.i64 a)) ∧
                ((Plain (iCells IntKind.i64 a)) ∧
                ((Eq (α := List Value) (iCells IntKind.i64 b) (iCells IntKind.i64 b)) ∧
                ((Plain (iCells IntKind.i64 b)) ∧
                True))))))
               ((true = false) ∧
               ((Eq (α := List Value) (iCells IntKind.i64 a) (iCells IntKind.i64 a)) ∧
               ((Plain (iCells IntKind.i64 a)) ∧
               ((Eq (α := List Value) (iCells IntKind.i64 b) (iCells IntKind.i64 b)) ∧
               ((Plain (iCells IntKind.i64 b)) ∧
               True))))))
              (br ((runL s (dI (Row.mk (List.take (((0 : Nat) + List.length a + List.length b) * (1 : Nat)) (List.drop (0 : Nat) (List.take (((0 : Nat) + List.length a) * (1 : Nat)) (List.drop (0 : Nat) ([] ++ List.take (List.length a * (1 : Nat)) (List.drop (0 : Nat) (iCells IntKind.i64 a)))) ++ List.take (List.length b * (1 : Nat)) (List.drop (0 : Nat) (iCells IntKind.i64 b))))) true (Ob.cells true)))).1 == (runL (runL s (dI (Row.mk (List.take (List.length a * (1 : Nat)) (List.drop (0 : Nat) (iCells IntKind.i64 a))) true (Ob.cells true)))).1 (dI (Row.mk (List.take (List.length b * (1 : Nat)) (List.drop (0 : Nat) (iCells IntKind.i64 b))) true (Ob.cells true)))).1)
               (br ((↑(runL s (dI (Row.mk (List.take (((0 : Nat) + List.length a + List.length b) * (1 : Nat)) (List.drop (0 : Nat) (List.take (((0 : Nat) + List.length a) * (1 : Nat)) (List.drop (0 : Nat) ([] ++ List.take (List.length a * (1 : Nat)) (List.drop (0 : Nat) (iCells IntKind.i64 a)))) ++ List.take (List.length b * (1 : Nat)) (List.drop (0 : Nat) (iCells IntKind.i64 b))))) true (Ob.cells true)))).2 : Int) == IntKind.wrap IntKind.i64 ((↑(runL s (dI (Row.mk (List.take (List.length a * (1 : Nat)) (List.drop (0 : Nat) (iCells IntKind.i64 a))) true (Ob.cells true)))).2 : Int) + (↑(runL (runL s (dI (Row.mk (List.take (List.length a * (1 : Nat)) (List.drop (0 : Nat) (iCells IntKind.i64 a))) true (Ob.cells true)))).1 (dI (Row.mk (List.take (List.length b * (1 : Nat)) (List.drop (0 : Nat) (iCells IntKind.i64 b))) true (Ob.cells true)))).2 : Int)))
                (((True ∧ (True ∧ True))) ∧
                ((true = true) ∧
                ((Eq (α := List Value) (iCells IntKind.i64 a) (iCells IntKind.i64 a)) ∧
                ((Plain (iCells IntKind.i64 a)) ∧
                ((Eq (α := List Value) (iCells IntKind.i64 b) (iCells IntKind.i64 b)) ∧
                ((Plain (iCells IntKind.i64 b)) ∧
                True))))))
                ((true = false) ∧
                ((Eq (α := List Value) (iCells IntKind.i64 a) (iCells IntKind.i64 a)) ∧
                ((Plain (iCells IntKind.i64 a)) ∧
                ((Eq (α := List Value) (iCells IntKind.i64 b) (iCells IntKind.i64 b)) ∧
                ((Plain (iCells IntKind.i64 b)) ∧
                True))))))
               ((true = false) ∧
               ((Eq (α := List Value) (iCells IntKind.i64 a) (iCells IntKind.i64 a)) ∧
               ((Plain (iCells IntKind.i64 a)) ∧
               ((Eq (α := List Value) (iCells IntKind.i64 b) (iCells IntKind.i64 b)) ∧
               ((Plain (iCells IntKind.i64 b)) ∧
               True))))))))
             False)
            False)
           False)
          False)
         False)
        False)
       False)
      False)
     False))))) := by kernel_rfl
set_option maxRecDepth 4000 in
theorem runs_con : Con Try.prog 3 [] [] (.bool true) [] := con_run mixed (n := 1000000) (by kernel_rfl) (by kernel_rfl)
theorem cR_ok : ∀ f a rows p v news, cR f a rows = some (p, v, news) → p → Con Try.prog f a rows v (rows ++ news) := by
  intro f a rows p v news h hp
  unfold cR at h
  split at h <;> simp only [Option.some.injEq, Prod.mk.injEq, reduceCtorEq] at h <;> obtain ⟨rfl, rfl, rfl⟩ := h
  · obtain ⟨⟨x, rfl, rfl⟩, hl⟩ := hp
    simp only [dI_ro, List.append_nil]
    exact run_con _ x hl
  · exact runs_con
theorem parts_law (s : Int) (a b : List Int) (_ : I64 s) (ha : a.length ≤ maxLen) (_ : ∀ x ∈ a, (Lit.int .i64 x).wf = true) (hb : b.length ≤ maxLen) (_ : ∀ x ∈ b, (Lit.int .i64 x).wf = true) :
    Con Try.prog 8 [.int .i64 s, slc 0 a.length, slc 1 b.length] [iRo .i64 a, iRo .i64 b] (.bool true) [iRo .i64 a, iRo .i64 b] := by
  refine con_vc (E := ER) mixed (calls_envC cR_ok) (lok_envC _ _ _) (M := noM) lm_none (parts_vc s a b) ?_
  have hm : maxLen = 9223372036854775807 := by unfold maxLen; rfl
  simp only [ofNat_eq, toNat_cast, Nat.zero_add, Nat.add_zero, Nat.mul_one, List.drop_zero, bCells_len, bCells_drop, bCells_take, bCells_app, bCells_one, bCells_plain, List.length_replicate, List.length_append, List.length_take, List.length_drop, List.take_length, and_true, true_and, and_self, decide_true, List.length_nil, List.length_cons, Nat.sub_zero, dB_mk, dB_ro, List.take_zero, iCells_len, iCells_plain, iCells_take, iCells_app, iCells_one, iCells_drop, dI_mk, List.nil_append]
  refine br_if (fun _ => trivial) fun ha' => br_if (fun _ => trivial) fun hb' => ?_
  have e1 : List.take (a.length + b.length) (a ++ b) = a ++ b := List.take_of_length_le (by simp)
  have hl : (List.replicate 0 (Value.int IntKind.i64 0).cells.toList).flatten.length = 0 := rfl
  have q1 : IsI .i64 { cells := iCells IntKind.i64 a, ro := true, ob := Ob.cells true } a.length := isI_own
  have q2 : IsI .i64 { cells := iCells IntKind.i64 b, ro := true, ob := Ob.cells true } b.length := isI_own
  have q3 : IsI .i64 { cells := iCells IntKind.i64 (a ++ b), ro := true, ob := Ob.cells true } (a.length + b.length) := isI_mk _ _ _ (by simp)
  have r1 := run_le a s
  have r2 := run_le b (runL s a).1
  have r3 := run_app b a s
  rw [e1]
  generalize runL s (a ++ b) = z at *
  generalize hy : runL (runL s a).1 b = y at *
  generalize runL s a = x at *
  refine ⟨⟨by omega, q1, by omega⟩, ⟨by omega, q2, by omega⟩, br_dec (by omega) (br_b rfl (br_dec (by omega) (br_dec (.inr hl) (br_dec (by omega) (br_b rfl (br_dec (by omega) (br_dec (by omega) (br_dec (by omega) ⟨⟨by omega, q3, by omega⟩, br_if (fun h => ?_) fun h => ?_⟩))))))))⟩
  · rw [if_pos (by omega)] at r3
    subst r3
    exact br_b (by simp) (br_b (by simp) trivial)
  · rw [if_neg (by omega)] at r3
    subst r3
    have w : IntKind.i64.wrap ((x.2 : Int) + (y.2 : Int)) = ((a.length + y.2 : Nat) : Int) := by rw [wr64_id (by unfold I64; omega)]; omega
    rw [w]
    exact br_b (by simp) (br_b (by simp) trivial)
end Go.Proofs.Ytcljhkbjpajfgaa.s13
