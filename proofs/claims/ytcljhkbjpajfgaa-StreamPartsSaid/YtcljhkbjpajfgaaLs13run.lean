/- Events of a stream, gone through. -/
import Derived.Test.YtcljhkbjpajfgaaSz9
import Derived.Test.YtcljhkbjpajfgaaRows
import Derived.Test.YtcljhkbjpajfgaaLs13
set_option linter.unusedSimpArgs false
set_option linter.unusedVariables false
namespace Go.Proofs.Ytcljhkbjpajfgaa.s13
open Go Go.Ev Go.Sy Go.RowKit Go.Proofs.Ytcljhkbjpajfgaa.ic
noncomputable def cN : FuncId → List Value → List Row → Option (Prop × Value × List Row)
  | 12, [.int .i64 s, .int .i64 e], [] => some (True, .tuple #[.int .i64 (nxt s e).1, .bool (nxt s e).2], [])
  | _, _, _ => none
def kN (f : FuncId) : Bool := Nat.beq f 12
noncomputable abbrev EN : Env := envC Try.prog cN kN
/-- Events till one is not taken. -/
noncomputable def runL (s : Int) : List Int → Int × Nat
  | [] => (s, 0)
  | e :: l => if (nxt s e).2 = true then ((runL (nxt s e).1 l).1, (runL (nxt s e).1 l).2 + 1) else (s, 0)
structure GRun where
  l : List Int
  s : Int
def pRun : List Nat := [0, 1, 0, 1]
def slRun (g : GRun) (i : Nat × Int) : List (Nat × Value) := [(0, .int .i64 i.2), (1, slc 0 g.l.length), (10, slc 0 g.l.length), (11, .int .i64 (g.l.length : Nat)), (12, .int .i64 (i.1 : Nat))]
def rlRun (g : GRun) (_ : Nat × Int) : List (Nat × Row) := [(0, iRo .i64 g.l)]
noncomputable def ranL (g : GRun) : Int × Nat := runL g.s g.l
noncomputable def wsRun (g : GRun) : List (Gate Unit) := [⟨.exit 0, fun _ => (ranL g).2 = g.l.length, fun _ => [(0, .int .i64 (ranL g).1), (1, slc 0 g.l.length)], fun _ => [(0, iRo .i64 g.l)], 1⟩, ⟨.ret, fun _ => True, fun _ => [(4, .int .i64 (ranL g).1), (5, .int .i64 ((ranL g).2 : Nat))], fun _ => [(0, iRo .i64 g.l)], 1⟩]
noncomputable def specRun : Sy.Spec := specOf 1 1 32 (fun g : GRun => g.l.length ≤ maxLen) (fun g => slRun g (0, g.s)) (fun g => rlRun g (0, g.s)) wsRun
noncomputable def mRun := mOf [(10, pRun, specRun)]
noncomputable def runT (s : Int) (l : List Int) : Value := .tuple #[.int .i64 (runL s l).1, .int .i64 ((runL s l).2 : Nat)]
theorem run_round (g : GRun) (i : Nat × Int) (Inv : Nat × Int → Prop) (m : Nat × Int → Nat) : mev EN noM 60 10 (0 :: pRun) false (codeOf Try.prog 10 (0 :: pRun)) ⟨mkOv (slRun g i), 32, []⟩ none ⟨mkR (rlRun g i), 1⟩ (roundK 1 1 32 Inv m (slRun g) (rlRun g) (wsRun g) i) =
  (br (decide ((↑i.1 : Int) < (↑(List.length g.1) : Int)))
   (br (decide ((0 : Int) ≤ (↑i.1 : Int) ∧ (↑i.1 : Int) < (↑(List.length g.1) : Int)))
    ((Eq (α := Option Value) ((iCells IntKind.i64 g.1)[(0 : Nat) + Int.toNat (↑i.1 : Int) * (1 : Nat)]?) (some (Value.int IntKind.i64 (cellI (iCells IntKind.i64 g.1) ((0 : Nat) + Int.toNat (↑i.1 : Int) * (1 : Nat)))))) ∧
    ((((True ∧ (True ∧ True)) ∧ (True ∧ True))) ∧
    (br (!(nxt i.2 (cellI (iCells IntKind.i64 g.1) ((0 : Nat) + Int.toNat (↑i.1 : Int) * (1 : Nat)))).2)
     (∃ y : Unit, ((True) ∧
     (((ranL g).1 = i.2) ∧
     (((↑(ranL g).2 : Int) = (↑i.1 : Int)) ∧
     ((Eq (α := List Value) (iCells IntKind.i64 g.1) (iCells IntKind.i64 g.1)) ∧
     ((Plain (iCells IntKind.i64 g.1)) ∧
     True))))))
     (∃ j : Nat × Int, ((Inv j) ∧
     ((m j < m i) ∧
     ((j.2 = (nxt i.2 (cellI (iCells IntKind.i64 g.1) ((0 : Nat) + Int.toNat (↑i.1 : Int) * (1 : Nat)))).1) ∧
     (((0 : Nat) = (0 : Nat)) ∧
     ((List.length g.1 = List.length g.1) ∧
     (((0 : Nat) = (0 : Nat)) ∧
     ((List.length g.1 = List.length g.1) ∧
     (((↑(List.length g.1) : Int) = (↑(List.length g.1) : Int)) ∧
     (((↑j.1 : Int) = IntKind.wrap IntKind.i64 ((↑i.1 : Int) + (1 : Int))) ∧
     ((Eq (α := List Value) (iCells IntKind.i64 g.1) (iCells IntKind.i64 g.1)) ∧
     ((Plain (iCells IntKind.i64 g.1)) ∧
     True)))))))))))))))
    False)
   (∃ y : Unit, (((ranL g).2 = List.length g.1) ∧
   (((ranL g).1 = i.2) ∧
   (((0 : Nat) = (0 : Nat)) ∧
   ((List.length g.1 = List.length g.1) ∧
   ((Eq (α := List Value) (iCells IntKind.i64 g.1) (iCells IntKind.i64 g.1)) ∧
   ((Plain (iCells IntKind.i64 g.1)) ∧
   True)))))))) := by kernel_rfl
theorem run_vc (s : Int) (l : List Int) : mcall EN mRun 60 10 [.int .i64 s, slc 0 l.length] ⟨mkR (nums 0 [iRo .i64 l]), 1⟩ (retIs 1 (runT s l) [iRo .i64 l]) =
  (∃ g : GRun, ((List.length g.1 ≤ (9223372036854775807 : Nat)) ∧
  ((g.2 = s) ∧
  (((0 : Nat) = (0 : Nat)) ∧
  ((List.length g.1 = List.length l) ∧
  (((0 : Nat) = (0 : Nat)) ∧
  ((List.length g.1 = List.length l) ∧
  (((↑(List.length g.1) : Int) = Int.ofNat (List.length l)) ∧
  (((↑(0 : Nat) : Int) = (0 : Int)) ∧
  ((Eq (α := List Value) (iCells IntKind.i64 g.1) (iCells IntKind.i64 l)) ∧
  ((Plain (iCells IntKind.i64 g.1)) ∧
  (∀ (side : Bool), (br (side)
   (∀ (y : Unit), ((Prod.snd (ranL g) = List.length (GRun.l g)) →
   (((runL s l).1 = (ranL g).1) ∧
   (((↑(runL s l).2 : Int) = Int.ofNat (List.length g.1)) ∧
   ((Eq (α := List Value) (iCells IntKind.i64 l) (iCells IntKind.i64 g.1)) ∧
   ((Plain (iCells IntKind.i64 l)) ∧
   True))))))
   (∀ (y : Unit), ((True) →
   (((runL s l).1 = (ranL g).1) ∧
   (((↑(runL s l).2 : Int) = (↑(ranL g).2 : Int)) ∧
   ((Eq (α := List Value) (iCells IntKind.i64 l) (iCells IntKind.i64 g.1)) ∧
   ((Plain (iCells IntKind.i64 l)) ∧
   True))))))))))))))))))) := by kernel_rfl
theorem cN_ok : ∀ f a rows p v news, cN f a rows = some (p, v, news) → p → Con Try.prog f a rows v (rows ++ news) := by
  intro f a rows p v news h hp
  unfold cN at h
  split at h <;> simp only [Option.some.injEq, Prod.mk.injEq, reduceCtorEq] at h <;> obtain ⟨rfl, rfl, rfl⟩ := h
  exact next_con _ _
def invRun (g : GRun) (i : Nat × Int) : Prop := i.1 ≤ g.l.length ∧ (runL i.2 (g.l.drop i.1)).1 = (ranL g).1 ∧ i.1 + (runL i.2 (g.l.drop i.1)).2 = (ranL g).2
def msRun (g : GRun) (i : Nat × Int) : Nat := g.l.length - i.1
theorem run_piece : PieceOk EN 1 (10, pRun, specRun) := by
  refine piece_loop mixed (calls_envC cN_ok) (lok_envC _ _ _) lm_none (n := 60) (by kernel_rfl) (fun g : GRun => ((0, g.s) : Nat × Int)) invRun msRun (sl := slRun) (rl := rlRun) (fun g hg => ⟨Nat.zero_le _, rfl, Nat.zero_add _⟩) (fun g s hg hi => ?_)
  refine (run_round g s _ _).mpr ?_
  obtain ⟨i, s⟩ := s
  obtain ⟨h1, h2, h3⟩ := hi
  have hm : maxLen = 9223372036854775807 := by unfold maxLen; rfl
  simp only at h1 h2 h3
  simp only [ofNat_eq, toNat_cast, Nat.zero_add, Nat.add_zero, Nat.mul_one, List.drop_zero, bCells_len, bCells_drop, bCells_take, bCells_app, bCells_one, bCells_plain, List.length_replicate, List.length_append, List.length_take, List.length_drop, List.take_length, and_true, true_and, and_self, decide_true, List.length_nil, List.length_cons, Nat.sub_zero, dB_mk, dB_ro, List.take_zero, iCells_len, iCells_plain]
  refine br_if (fun h => ?_) (fun h => ?_)
  · have hi : i < g.l.length := by omega
    have hd : g.l.drop i = g.l.getD i 0 :: g.l.drop (i + 1) := by
      rw [List.drop_eq_getElem_cons hi]; simp [List.getD, List.getElem?_eq_getElem hi]
    rw [hd, runL] at h2 h3
    rw [iCells_cell hi]
    have w : IntKind.i64.wrap ((i : Int) + 1) = ((i + 1 : Nat) : Int) := by rw [wr64_id (by unfold I64; omega)]; omega
    rw [w]
    refine br_dec (by omega) ⟨iCells_get hi, br_intro (fun h => ?_) (fun h => ?_)⟩
    · have h : ¬ (nxt s (g.l.getD i 0)).2 = true := by simp at h; simp [h]
      rw [if_neg h] at h2 h3
      exact ⟨(), h2.symm, by simp only at h3; omega⟩
    · have h : (nxt s (g.l.getD i 0)).2 = true := by simp at h; exact h
      rw [if_pos h] at h2 h3
      exact ⟨(i + 1, (nxt s (g.l.getD i 0)).1), ⟨by simp only; omega, h2, by simp only at h3 ⊢; omega⟩, by unfold msRun; simp only; omega, rfl, rfl⟩
  · have hi : i = g.l.length := by omega
    rw [List.drop_eq_nil_of_le (by omega), runL] at h2 h3
    exact ⟨(), by simp only at h3; omega, h2.symm⟩
theorem run_con (s : Int) (l : List Int) (hl : l.length ≤ maxLen) : Con Try.prog 10 [.int .i64 s, slc 0 l.length] [iRo .i64 l] (runT s l) [iRo .i64 l] := by
  refine con_vc (E := EN) mixed (calls_envC cN_ok) (lok_envC _ _ _) (M := mRun) (lm_one run_piece) (run_vc s l) ?_
  have hm : maxLen = 9223372036854775807 := by unfold maxLen; rfl
  refine ⟨⟨l, s⟩, by simp only; omega, rfl, rfl, rfl, rfl, rfl, rfl, rfl, rfl, iCells_plain _ _, fun side => ?_⟩
  cases side
  · exact fun _ _ => ⟨rfl, rfl, rfl, iCells_plain _ _, trivial⟩
  · exact fun _ h => ⟨rfl, by show (((ranL ⟨l, s⟩).2 : Nat) : Int) = _; rw [h]; rfl, rfl, iCells_plain _ _, trivial⟩
theorem run_le : ∀ (l : List Int) (s : Int), (runL s l).2 ≤ l.length
  | [], _ => Nat.le_refl _
  | e :: l, s => by
    rw [runL]; split
    · have := run_le l (nxt s e).1
      simp only [List.length_cons]; omega
    · simp
theorem run_app (b : List Int) : ∀ (a : List Int) (s : Int), runL s (a ++ b) = if (runL s a).2 < a.length then runL s a else ((runL (runL s a).1 b).1, a.length + (runL (runL s a).1 b).2)
  | [], s => by simp [runL]
  | e :: a, s => by
    rw [List.cons_append, runL, runL]
    split
    · rw [run_app b a]
      simp only [List.length_cons]
      split
      · rw [if_pos (by omega)]
      · rw [if_neg (by omega)]
        simp only [Prod.mk.injEq, true_and]; omega
    · rw [if_pos (by simp)]
end Go.Proofs.Ytcljhkbjpajfgaa.s13
