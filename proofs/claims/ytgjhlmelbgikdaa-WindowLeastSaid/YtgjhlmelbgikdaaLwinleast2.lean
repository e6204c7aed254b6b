/- The law of the least of windows. -/
import Derived.Test.YtgjhlmelbgikdaaSz9
import Derived.Test.YtgjhlmelbgikdaaRows
import Derived.Test.YtgjhlmelbgikdaaLwinleast
set_option linter.unusedSimpArgs false
set_option linter.unusedVariables false
namespace Go.Proofs.Ytgjhlmelbgikdaa.wn
open Go Go.Ev Go.Sy Go.RowKit Go.Proofs.Ytgjhlmelbgikdaa.ic
def cL : FuncId → List Value → List Row → Option (Prop × Value × List Row)
  | 17, [.int .i64 n, .int .i64 lo, .int .i64 hi], [] => some (0 ≤ lo ∧ lo ≤ hi ∧ hi ≤ 2147483647, .int .i64 (inside n lo hi), [])
  | 12, [.agg ⟨[.int .i64 w]⟩, .int .i64 o, .int .i64 n], [] => some (WinIn w, .tuple #[winV (shL w o n), .bool (shB w o n)], [])
  | 13, [.int .i64 n], [] => some (True, .tuple #[winV (newL n), .int .i64 (newE n)], [])
  | 15, [.int .i64 n, .slice (some ⟨0, 0, none⟩) k 1], [r0] => some (IsI .i64 r0 k ∧ k ≤ maxLen, .int .i64 (max0 (leastL n (dI r0))), [])
  | 3, [], [] => some (True, .bool true, [])
  | _, _, _ => none
def kL (f : FuncId) : Bool := Nat.beq f 17 || Nat.beq f 13 || Nat.beq f 12 || Nat.beq f 15 || Nat.beq f 3
noncomputable abbrev EL : Env := envC Try.prog cL kL
def pWs : List Nat := [0, 1, 0, 1, 1, 1]
structure SWs where
  i : Nat
  ws : List Int
  want : Int
def slWs (g : GLeast) (s : SWs) : List (Nat × Value) := [(0, .int .i64 g.n), (1, slc 0 g.l.length), (5, slc 1 s.ws.length), (6, .int .i64 s.want), (7, .int .i64 (s.i : Nat))]
def rlWs (g : GLeast) (s : SWs) : List (Nat × Row) := [(0, iRo .i64 g.l), (1, iOwn .i64 s.ws)]
def wsWs (g : GLeast) : List (Gate (List Int)) := [⟨.exit 0, fun ws => ws.length ≤ 20, fun ws => [(0, .int .i64 g.n), (5, slc 1 ws.length), (6, .int .i64 (leastL g.n ws))], fun ws => [(0, iRo .i64 g.l), (1, iOwn .i64 ws)], 2⟩]
def specWs : Sy.Spec := specOf 1 2 51 (fun g : GLeast => g.l.length ≤ maxLen) (fun g => slWs g ⟨0, [], g.n⟩) (fun g => rlWs g ⟨0, [], g.n⟩) wsWs
def mWs := mOf [(6, pWs, specWs)]
theorem ws_round (g : GLeast) (i : SWs) (Inv : SWs → Prop) (m : SWs → Nat) : mev EL noM 60 6 (0 :: pWs) false (codeOf Try.prog 6 (0 :: pWs)) ⟨mkOv (slWs g i), 51, []⟩ none ⟨mkR (rlWs g i), 2⟩ (roundK 1 2 51 Inv m (slWs g) (rlWs g) (wsWs g) i) =
  (br (decide ((↑i.1 : Int) < Int.ofNat (List.length g.1)))
   (br (decide ((↑i.1 : Int) < (20 : Int)))
    (br (decide ((0 : Int) ≤ (↑i.1 : Int) ∧ (↑i.1 : Int) < (↑(List.length g.1) : Int)))
     ((Eq (α := Option Value) ((iCells IntKind.i64 g.1)[(0 : Nat) + Int.toNat (↑i.1 : Int) * (1 : Nat)]?) (some (Value.int IntKind.i64 (cellI (iCells IntKind.i64 g.1) ((0 : Nat) + Int.toNat (↑i.1 : Int) * (1 : Nat)))))) ∧
     ((((True ∧ (True ∧ (True ∧ True))) ∧ (True ∧ ((0 : Int) ≤ (0 : Int) ∧ ((0 : Int) ≤ (2147483647 : Int) ∧ (2147483647 : Int) ≤ (2147483647 : Int)))))) ∧
     ((((True ∧ True) ∧ (True ∧ True))) ∧
     (br (Int.tmod (↑i.1 : Int) (3 : Int) == (2 : Int))
      (((((True ∧ True) ∧ (True ∧ (True ∧ True))) ∧ (True ∧ WinIn (newL (inside (cellI (iCells IntKind.i64 g.1) ((0 : Nat) + Int.toNat (↑i.1 : Int) * (1 : Nat))) (0 : Int) (2147483647 : Int)))))) ∧
      (br (decide (List.length i.2 + (1 : Nat) ≤ (16777216 : Nat)))
       (br (decide ((0 : Nat) + List.length i.2 * (1 : Nat) ≤ List.length (iCells IntKind.i64 i.2)))
        (∃ j : SWs, ((Inv j) ∧
        ((m j < m i) ∧
        ((g.2 = g.2) ∧
        (((0 : Nat) = (0 : Nat)) ∧
        ((List.length g.1 = List.length g.1) ∧
        (((0 : Nat) = (0 : Nat)) ∧
        ((List.length j.2 = List.length i.2 + (1 : Nat)) ∧
        ((j.3 = if shL (newL (inside (cellI (iCells IntKind.i64 g.1) ((0 : Nat) + Int.toNat (↑i.1 : Int) * (1 : Nat))) (0 : Int) (2147483647 : Int))) (2147483647 : Int) (0 : Int) < i.3 then shL (newL (inside (cellI (iCells IntKind.i64 g.1) ((0 : Nat) + Int.toNat (↑i.1 : Int) * (1 : Nat))) (0 : Int) (2147483647 : Int))) (2147483647 : Int) (0 : Int) else i.3) ∧
        (((↑j.1 : Int) = IntKind.wrap IntKind.i64 ((↑i.1 : Int) + (1 : Int))) ∧
        ((Eq (α := List Value) (iCells IntKind.i64 g.1) (iCells IntKind.i64 g.1)) ∧
        ((Plain (iCells IntKind.i64 g.1)) ∧
        ((Eq (α := List Value) (iCells IntKind.i64 j.2) (List.take (List.length i.2 * (1 : Nat)) (List.drop (0 : Nat) (iCells IntKind.i64 i.2)) ++ [Value.int IntKind.i64 (shL (newL (inside (cellI (iCells IntKind.i64 g.1) ((0 : Nat) + Int.toNat (↑i.1 : Int) * (1 : Nat))) (0 : Int) (2147483647 : Int))) (2147483647 : Int) (0 : Int))])) ∧
        ((Plain (iCells IntKind.i64 j.2)) ∧
        True))))))))))))))
        False)
       False))
      (br (decide (List.length i.2 + (1 : Nat) ≤ (16777216 : Nat)))
       (br (decide ((0 : Nat) + List.length i.2 * (1 : Nat) ≤ List.length (iCells IntKind.i64 i.2)))
        (∃ j : SWs, ((Inv j) ∧
        ((m j < m i) ∧
        ((g.2 = g.2) ∧
        (((0 : Nat) = (0 : Nat)) ∧
        ((List.length g.1 = List.length g.1) ∧
        (((0 : Nat) = (0 : Nat)) ∧
        ((List.length j.2 = List.length i.2 + (1 : Nat)) ∧
        ((j.3 = if newL (inside (cellI (iCells IntKind.i64 g.1) ((0 : Nat) + Int.toNat (↑i.1 : Int) * (1 : Nat))) (0 : Int) (2147483647 : Int)) < i.3 then newL (inside (cellI (iCells IntKind.i64 g.1) ((0 : Nat) + Int.toNat (↑i.1 : Int) * (1 : Nat))) (0 : Int) (2147483647 : Int)) else i.3) ∧
        (((↑j.1 : Int) = IntKind.wrap IntKind.i64 ((↑i.1 : Int) + (1 : Int))) ∧
        ((Eq (α := List Value) (iCells IntKind.i64 g.1) (iCells IntKind.i64 g.1)) ∧
        ((Plain (iCells IntKind.i64 g.1)) ∧
        ((Eq (α := List Value) (iCells IntKind.i64 j.2) (List.take (List.length i.2 * (1 : Nat)) (List.drop (0 : Nat) (iCells IntKind.i64 i.2)) ++ [Value.int IntKind.i64 (newL (inside (cellI (iCells IntKind.i64 g.1) ((0 : Nat) + Int.toNat (↑i.1 : Int) * (1 : Nat))) (0 : Int) (2147483647 : Int)))])) ∧
        ((Plain (iCells IntKind.i64 j.2)) ∧
        True))))))))))))))
        False)
       False)))))
     False)
    (∃ y : List Int, ((List.length y ≤ (20 : Nat)) ∧
    ((g.2 = g.2) ∧
    (((0 : Nat) = (0 : Nat)) ∧
    ((List.length y = List.length i.2) ∧
    ((leastL g.2 y = i.3) ∧
    ((Eq (α := List Value) (iCells IntKind.i64 g.1) (iCells IntKind.i64 g.1)) ∧
    ((Plain (iCells IntKind.i64 g.1)) ∧
    ((Eq (α := List Value) (iCells IntKind.i64 y) (iCells IntKind.i64 i.2)) ∧
    ((Plain (iCells IntKind.i64 y)) ∧
    True)))))))))))
   (∃ y : List Int, ((List.length y ≤ (20 : Nat)) ∧
   ((g.2 = g.2) ∧
   (((0 : Nat) = (0 : Nat)) ∧
   ((List.length y = List.length i.2) ∧
   ((leastL g.2 y = i.3) ∧
   ((Eq (α := List Value) (iCells IntKind.i64 g.1) (iCells IntKind.i64 g.1)) ∧
   ((Plain (iCells IntKind.i64 g.1)) ∧
   ((Eq (α := List Value) (iCells IntKind.i64 y) (iCells IntKind.i64 i.2)) ∧
   ((Plain (iCells IntKind.i64 y)) ∧
   True))))))))))) := by kernel_rfl
theorem ws_vc (n : Int) (l : List Int) : mcall EL mWs 60 6 [.int .i64 n, slc 0 l.length] ⟨mkR (nums 0 [iRo .i64 l]), 1⟩ (retIs 1 (.bool true) [iRo .i64 l]) =
  (∃ g : GLeast, ((List.length g.1 ≤ (9223372036854775807 : Nat)) ∧
  ((g.2 = n) ∧
  (((0 : Nat) = (0 : Nat)) ∧
  ((List.length g.1 = List.length l) ∧
  (((0 : Nat) = (0 : Nat)) ∧
  ((g.2 = n) ∧
  (((↑(0 : Nat) : Int) = (0 : Int)) ∧
  ((Eq (α := List Value) (iCells IntKind.i64 g.1) (iCells IntKind.i64 l)) ∧
  ((Plain (iCells IntKind.i64 g.1)) ∧
  ((Eq (α := List Value) ([]) ([])) ∧
  (∀ (y : List Int), ((Nat.le (List.length y) (20 : Nat)) →
  ((((True ∧ (((0 : Nat) + List.length y * (1 : Nat) ≤ List.length (iCells IntKind.i64 y) ∧ Plain (List.take (List.length y * (1 : Nat)) (List.drop (0 : Nat) (iCells IntKind.i64 y)))) ∧ True)) ∧ (True ∧ (IsI IntKind.i64 (Row.mk (List.take (List.length y * (1 : Nat)) (List.drop (0 : Nat) (iCells IntKind.i64 y))) true (Ob.cells true)) (List.length y) ∧ List.length y ≤ (9223372036854775807 : Nat))))) ∧
  (br (max0 (leastL g.2 (dI (Row.mk (List.take (List.length y * (1 : Nat)) (List.drop (0 : Nat) (iCells IntKind.i64 y))) true (Ob.cells true)))) == if (0 : Int) > leastL g.2 y then (0 : Int) else leastL g.2 y)
   (((True ∧ (True ∧ True))) ∧
   ((true = true) ∧
   ((Eq (α := List Value) (iCells IntKind.i64 l) (iCells IntKind.i64 g.1)) ∧
   ((Plain (iCells IntKind.i64 l)) ∧
   True))))
   ((true = false) ∧
   ((Eq (α := List Value) (iCells IntKind.i64 l) (iCells IntKind.i64 g.1)) ∧
   ((Plain (iCells IntKind.i64 l)) ∧
   True)))))))))))))))))) := by kernel_rfl

theorem cL_ok : ∀ f a rows p v news, cL f a rows = some (p, v, news) → p → Con Try.prog f a rows v (rows ++ news) := by
  intro f a rows p v news h hp
  unfold cL at h
  split at h <;> simp only [Option.some.injEq, Prod.mk.injEq, reduceCtorEq] at h <;> obtain ⟨rfl, rfl, rfl⟩ := h
  · exact within_con _ _ _ hp.1 hp.2.1 hp.2.2
  · exact shift_con _ _ _ hp
  · exact new_con _
  · obtain ⟨⟨x, rfl, rfl⟩, hl⟩ := hp
    simp only [dI_ro, List.append_nil]
    exact least_con _ x hl
  · exact con_run mixed (n := 1000000) (by kernel_rfl) (by kernel_rfl)
def invWs (g : GLeast) (s : SWs) : Prop := s.i ≤ g.l.length ∧ s.i ≤ 20 ∧ s.ws.length = s.i ∧ s.want = leastL g.n s.ws
def msWs (g : GLeast) (s : SWs) : Nat := g.l.length - s.i
theorem ws_piece : PieceOk EL 1 (6, pWs, specWs) := by
  refine piece_loop mixed (calls_envC cL_ok) (lok_envC _ _ _) lm_none (n := 60) (by kernel_rfl) (fun g : GLeast => (⟨0, [], g.n⟩ : SWs)) invWs msWs (sl := slWs) (rl := rlWs) (fun g hg => ⟨Nat.zero_le _, Nat.zero_le _, rfl, rfl⟩) (fun g s hg hi => ?_)
  refine (ws_round g s _ _).mpr ?_
  obtain ⟨i, ws, want⟩ := s
  obtain ⟨h1, h2, h3, h4⟩ := hi
  have hm : maxLen = 9223372036854775807 := by unfold maxLen; rfl
  simp only at h1 h2 h3 h4
  subst h4
  simp only [ofNat_eq, toNat_cast, Nat.zero_add, Nat.add_zero, Nat.mul_one, List.drop_zero, bCells_len, bCells_drop, bCells_take, bCells_app, bCells_one, bCells_plain, List.length_replicate, List.length_append, List.length_take, List.length_drop, List.take_length, and_true, true_and, and_self, decide_true, List.length_nil, List.length_cons, Nat.sub_zero, dB_mk, dB_ro, List.take_zero, iCells_plain, iCells_len, iCells_take]
  refine br_if (fun h => br_if (fun h' => br_dec (by omega) ?_) (fun _ => ⟨ws, by omega, rfl, rfl, rfl⟩)) (fun _ => ⟨ws, by omega, rfl, rfl, rfl⟩)
  have hi : i < g.l.length := by omega
  rw [iCells_cell hi]
  have hk := inside_in (g.l.getD i 0) 0 2147483647 (by omega)
  generalize inside (g.l.getD i 0) 0 2147483647 = k at *
  have e2 : newL k = k := by unfold newL fitsB; rw [decide_eq_true hk]; rfl
  have w : IntKind.i64.wrap ((i : Int) + 1) = ((i + 1 : Nat) : Int) := by rw [wr64_id (by unfold I64; omega)]; omega
  have e3 : ∀ x : Int, iCells .i64 ws ++ [Value.int .i64 x] = iCells .i64 (ws ++ [x]) := fun x => by rw [← iCells_app]; rfl
  simp only [e2, w, e3]
  have leaf : ∀ x : Int, ∃ j : SWs, invWs g j ∧ msWs g j < msWs g ⟨i, ws, leastL g.n ws⟩ ∧ j.ws.length = ws.length + 1 ∧ (j.want = if x < leastL g.n ws then x else leastL g.n ws) ∧ (j.i : Int) = ((i + 1 : Nat) : Int) ∧ iCells .i64 j.ws = iCells .i64 (ws ++ [x]) :=
    fun x => ⟨⟨i + 1, ws ++ [x], leastL g.n (ws ++ [x])⟩, ⟨by simp only; omega, by simp only; omega, by simp only [List.length_append, List.length_singleton]; omega, rfl⟩, by unfold msWs; simp only; omega, by simp, least_snoc _ _ _, rfl, rfl⟩
  exact ⟨iCells_get hi, by omega, br_intro (fun _ => ⟨by unfold WinIn; omega, br_dec (by omega) (br_dec (by omega) (leaf _))⟩) (fun _ => br_dec (by omega) (br_dec (by omega) (leaf _)))⟩
theorem leasts_law (n : Int) (l : List Int) (_ : I64 n) (hl : l.length ≤ maxLen) (_ : ∀ x ∈ l, (Lit.int .i64 x).wf = true) : Con Try.prog 6 [.int .i64 n, slc 0 l.length] [iRo .i64 l] (.bool true) [iRo .i64 l] := by
  refine con_vc (E := EL) mixed (calls_envC cL_ok) (lok_envC _ _ _) (M := mWs) (lm_one ws_piece) (ws_vc n l) ?_
  have hm : maxLen = 9223372036854775807 := by unfold maxLen; rfl
  simp only [ofNat_eq, toNat_cast, Nat.zero_add, Nat.add_zero, Nat.mul_one, List.drop_zero, bCells_len, bCells_drop, bCells_take, bCells_app, bCells_one, bCells_plain, List.length_replicate, List.length_append, List.length_take, List.length_drop, List.take_length, and_true, true_and, and_self, decide_true, List.length_nil, List.length_cons, Nat.sub_zero, dB_mk, dB_ro, List.take_zero, iCells_plain, iCells_len, iCells_take, dI_mk]
  refine ⟨⟨l, n⟩, by simp only; omega, rfl, rfl, rfl, rfl, rfl, fun y hy => ?_⟩
  have hy : y.length ≤ 20 := hy
  exact ⟨⟨by omega, isI_own, by omega⟩, br_b (by simp [max0]) rfl⟩
end Go.Proofs.Ytgjhlmelbgikdaa.wn
