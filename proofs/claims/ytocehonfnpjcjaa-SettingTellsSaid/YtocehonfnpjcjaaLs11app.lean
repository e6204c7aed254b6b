/- A list of settings, told to a set, in order. -/
import Derived.Test.YtocehonfnpjcjaaSz9
import Derived.Test.YtocehonfnpjcjaaRows
import Derived.Test.YtocehonfnpjcjaaLs11
set_option linter.unusedSimpArgs false
set_option linter.unusedVariables false
namespace Go.Proofs.Ytocehonfnpjcjaa.s11
open Go Go.Ev Go.Sy Go.RowKit
noncomputable def vlI (i v : Int) : Int := vl ⟨i, v⟩
noncomputable def putI (a b c d e i v : Int) : St := put ⟨a, b, c, d, e⟩ ⟨i, v⟩
noncomputable def cA : FuncId → List Value → List Row → Option (Prop × Value × List Row)
  | 11, [.agg ⟨[.int .i64 i, .int .i64 v]⟩], [] => some (True, .int .i64 (vlI i v), [])
  | 21, [.agg ⟨[.int .i64 a, .int .i64 b, .int .i64 c, .int .i64 d, .int .i64 e]⟩, .agg ⟨[.int .i64 i, .int .i64 v]⟩], [] => some (True, stV (putI a b c d e i v), [])
  | _, _, _ => none
def kA (f : FuncId) : Bool := Nat.beq f 11 || Nat.beq f 21
noncomputable abbrev EA : Env := envC Try.prog cA kA
def seCells (l : List Se) : List Value := l.flatMap seC
def seRo (l : List Se) : Row := ⟨seCells l, true, .cells true⟩
def stRow (x : St) : Row := ⟨stC x, false, .cells false⟩
def st0 : St := ⟨0, 0, 0, 0, 0⟩
/-- The first code that is an error. -/
noncomputable def errL : List Se → Int
  | [] => 0
  | s :: l => if vl s = 0 then errL l else vl s
noncomputable def finL (y : St) : List Se → St
  | [] => y
  | s :: l => finL (put y s) l
structure GApp where
  l : List Se
  x : St
structure SApp where
  i : Nat
  y : St
def pApp : List Nat := [0, 1, 0, 1, 1]
def slApp (g : GApp) (s : SApp) : List (Nat × Value) := [(2, .pointer (some ⟨1, 0, none⟩)), (4, .pointer (some ⟨2, 0, none⟩)), (5, .int .i64 0), (6, .pointer (some ⟨3, 0, none⟩)), (11, .slice (some ⟨0, 0, none⟩) g.l.length 2), (12, .int .i64 (g.l.length : Nat)), (13, .int .i64 (s.i : Nat))]
def rlApp (g : GApp) (s : SApp) : List (Nat × Row) := [(0, seRo g.l), (1, stRow g.x), (2, stRow st0), (3, stRow s.y)]
noncomputable def wsApp (g : GApp) : List (Gate Unit) := [⟨.exit 0, fun _ => errL g.l = 0, fun _ => [(4, .pointer (some ⟨1, 0, none⟩)), (6, .pointer (some ⟨2, 0, none⟩))], fun _ => [(0, seRo g.l), (1, stRow st0), (2, stRow (finL g.x g.l))], 3⟩,
  ⟨.ret, fun _ => errL g.l ≠ 0, fun _ => [(4, .pointer (some ⟨1, 0, none⟩)), (5, .int .i64 (errL g.l))], fun _ => [(0, seRo g.l), (1, stRow g.x)], 2⟩]
noncomputable def specApp : Sy.Spec := specOf 1 4 28 (fun g : GApp => g.l.length ≤ maxLen) (fun g => slApp g ⟨0, g.x⟩) (fun g => rlApp g ⟨0, g.x⟩) wsApp
noncomputable def mApp := mOf [(9, pApp, specApp)]
/-- The set behind it. -/
noncomputable def appSt (x : St) (l : List Se) : St := if errL l = 0 then finL x l else x
theorem app_round (g : GApp) (i : SApp) (Inv : SApp → Prop) (m : SApp → Nat) : mev EA noM 60 9 (0 :: pApp) false (codeOf Try.prog 9 (0 :: pApp)) ⟨mkOv (slApp g i), 28, []⟩ none ⟨mkR (rlApp g i), 4⟩ (roundK 1 4 28 Inv m (slApp g) (rlApp g) (wsApp g) i) =
  (br (decide ((↑i.1 : Int) < (↑(List.length g.1) : Int)))
   (br (decide ((0 : Int) ≤ (↑i.1 : Int) ∧ (↑i.1 : Int) < (↑(List.length g.1) : Int)))
    ((Eq (α := Option Value) ((seCells g.1)[(0 : Nat) + Int.toNat (↑i.1 : Int) * (2 : Nat)]?) (some (Value.int IntKind.i64 (cellI (seCells g.1) ((0 : Nat) + Int.toNat (↑i.1 : Int) * (2 : Nat)))))) ∧
    ((Eq (α := Option Value) ((seCells g.1)[(0 : Nat) + Int.toNat (↑i.1 : Int) * (2 : Nat) + (1 : Nat)]?) (some (Value.int IntKind.i64 (cellI (seCells g.1) ((0 : Nat) + Int.toNat (↑i.1 : Int) * (2 : Nat) + (1 : Nat)))))) ∧
    (((((True ∧ (True ∧ True)) ∧ True) ∧ (True ∧ True))) ∧
    (br (vlI (cellI (seCells g.1) ((0 : Nat) + Int.toNat (↑i.1 : Int) * (2 : Nat))) (cellI (seCells g.1) ((0 : Nat) + Int.toNat (↑i.1 : Int) * (2 : Nat) + (1 : Nat))) != (0 : Int))
     (∃ y : Unit, ((errL g.1 ≠ (0 : Int)) ∧
     (((0 : Nat) = (0 : Nat)) ∧
     ((errL g.1 = vlI (cellI (seCells g.1) ((0 : Nat) + Int.toNat (↑i.1 : Int) * (2 : Nat))) (cellI (seCells g.1) ((0 : Nat) + Int.toNat (↑i.1 : Int) * (2 : Nat) + (1 : Nat)))) ∧
     ((Eq (α := List Value) (seCells g.1) (seCells g.1)) ∧
     ((Plain (seCells g.1)) ∧
     ((g.2.1 = g.2.1) ∧
     ((g.2.2 = g.2.2) ∧
     ((g.2.3 = g.2.3) ∧
     ((g.2.4 = g.2.4) ∧
     ((g.2.5 = g.2.5) ∧
     True)))))))))))
     (((((True ∧ (True ∧ (True ∧ (True ∧ (True ∧ True))))) ∧ ((True ∧ (True ∧ True)) ∧ True)) ∧ (True ∧ True))) ∧
     (∃ j : SApp, ((Inv j) ∧
     ((m j < m i) ∧
     (((0 : Nat) = (0 : Nat)) ∧
     (((0 : Nat) = (0 : Nat)) ∧
     (((0 : Int) = (0 : Int)) ∧
     (((0 : Nat) = (0 : Nat)) ∧
     (((0 : Nat) = (0 : Nat)) ∧
     ((List.length g.1 = List.length g.1) ∧
     (((↑(List.length g.1) : Int) = (↑(List.length g.1) : Int)) ∧
     (((↑j.1 : Int) = IntKind.wrap IntKind.i64 ((↑i.1 : Int) + (1 : Int))) ∧
     ((Eq (α := List Value) (seCells g.1) (seCells g.1)) ∧
     ((Plain (seCells g.1)) ∧
     ((g.2.1 = g.2.1) ∧
     ((g.2.2 = g.2.2) ∧
     ((g.2.3 = g.2.3) ∧
     ((g.2.4 = g.2.4) ∧
     ((g.2.5 = g.2.5) ∧
     (((0 : Int) = (0 : Int)) ∧
     (((0 : Int) = (0 : Int)) ∧
     (((0 : Int) = (0 : Int)) ∧
     (((0 : Int) = (0 : Int)) ∧
     (((0 : Int) = (0 : Int)) ∧
     ((j.2.1 = (putI i.2.1 i.2.2 i.2.3 i.2.4 i.2.5 (cellI (seCells g.1) ((0 : Nat) + Int.toNat (↑i.1 : Int) * (2 : Nat))) (cellI (seCells g.1) ((0 : Nat) + Int.toNat (↑i.1 : Int) * (2 : Nat) + (1 : Nat)))).1) ∧
     ((j.2.2 = (putI i.2.1 i.2.2 i.2.3 i.2.4 i.2.5 (cellI (seCells g.1) ((0 : Nat) + Int.toNat (↑i.1 : Int) * (2 : Nat))) (cellI (seCells g.1) ((0 : Nat) + Int.toNat (↑i.1 : Int) * (2 : Nat) + (1 : Nat)))).2) ∧
     ((j.2.3 = (putI i.2.1 i.2.2 i.2.3 i.2.4 i.2.5 (cellI (seCells g.1) ((0 : Nat) + Int.toNat (↑i.1 : Int) * (2 : Nat))) (cellI (seCells g.1) ((0 : Nat) + Int.toNat (↑i.1 : Int) * (2 : Nat) + (1 : Nat)))).3) ∧
     ((j.2.4 = (putI i.2.1 i.2.2 i.2.3 i.2.4 i.2.5 (cellI (seCells g.1) ((0 : Nat) + Int.toNat (↑i.1 : Int) * (2 : Nat))) (cellI (seCells g.1) ((0 : Nat) + Int.toNat (↑i.1 : Int) * (2 : Nat) + (1 : Nat)))).4) ∧
     ((j.2.5 = (putI i.2.1 i.2.2 i.2.3 i.2.4 i.2.5 (cellI (seCells g.1) ((0 : Nat) + Int.toNat (↑i.1 : Int) * (2 : Nat))) (cellI (seCells g.1) ((0 : Nat) + Int.toNat (↑i.1 : Int) * (2 : Nat) + (1 : Nat)))).5) ∧
     True)))))))))))))))))))))))))))))))))
    False)
   (∃ y : Unit, ((errL g.1 = (0 : Int)) ∧
   (((0 : Nat) = (0 : Nat)) ∧
   (((0 : Nat) = (0 : Nat)) ∧
   ((Eq (α := List Value) (seCells g.1) (seCells g.1)) ∧
   ((Plain (seCells g.1)) ∧
   (((0 : Int) = (0 : Int)) ∧
   (((0 : Int) = (0 : Int)) ∧
   (((0 : Int) = (0 : Int)) ∧
   (((0 : Int) = (0 : Int)) ∧
   (((0 : Int) = (0 : Int)) ∧
   (((finL (GApp.x g) g.1).1 = i.2.1) ∧
   (((finL (GApp.x g) g.1).2 = i.2.2) ∧
   (((finL (GApp.x g) g.1).3 = i.2.3) ∧
   (((finL (GApp.x g) g.1).4 = i.2.4) ∧
   (((finL (GApp.x g) g.1).5 = i.2.5) ∧
   True))))))))))))))))) := by kernel_rfl
theorem app_vc (x : St) (l : List Se) (z : St) (c : Int) : mcall EA mApp 60 9 [stV x, .slice (some ⟨0, 0, none⟩) l.length 2] ⟨mkR (nums 0 [seRo l]), 1⟩ (retIs 1 (.tuple #[stV z, .int .i64 c]) [seRo l]) =
  (∃ g : GApp, ((List.length g.1 ≤ (9223372036854775807 : Nat)) ∧
  (((0 : Nat) = (0 : Nat)) ∧
  (((0 : Nat) = (0 : Nat)) ∧
  (((0 : Int) = (0 : Int)) ∧
  (((0 : Nat) = (0 : Nat)) ∧
  (((0 : Nat) = (0 : Nat)) ∧
  ((List.length g.1 = List.length l) ∧
  (((↑(List.length g.1) : Int) = Int.ofNat (List.length l)) ∧
  (((↑(0 : Nat) : Int) = (0 : Int)) ∧
  ((Eq (α := List Value) (seCells g.1) (seCells l)) ∧
  ((Plain (seCells g.1)) ∧
  ((g.2.1 = x.1) ∧
  ((g.2.2 = x.2) ∧
  ((g.2.3 = x.3) ∧
  ((g.2.4 = x.4) ∧
  ((g.2.5 = x.5) ∧
  (((0 : Int) = (0 : Int)) ∧
  (((0 : Int) = (0 : Int)) ∧
  (((0 : Int) = (0 : Int)) ∧
  (((0 : Int) = (0 : Int)) ∧
  (((0 : Int) = (0 : Int)) ∧
  ((g.2.1 = x.1) ∧
  ((g.2.2 = x.2) ∧
  ((g.2.3 = x.3) ∧
  ((g.2.4 = x.4) ∧
  ((g.2.5 = x.5) ∧
  (∀ (side : Bool), (br (side)
   (∀ (y : Unit), ((errL (GApp.l g) = (0 : Int)) →
   ((z.1 = (finL (GApp.x g) g.1).1) ∧
   ((z.2 = (finL (GApp.x g) g.1).2) ∧
   ((z.3 = (finL (GApp.x g) g.1).3) ∧
   ((z.4 = (finL (GApp.x g) g.1).4) ∧
   ((z.5 = (finL (GApp.x g) g.1).5) ∧
   ((c = (0 : Int)) ∧
   ((Eq (α := List Value) (seCells l) (seCells g.1)) ∧
   ((Plain (seCells l)) ∧
   True))))))))))
   (∀ (y : Unit), ((errL (GApp.l g) = (0 : Int) → False) →
   ((z.1 = g.2.1) ∧
   ((z.2 = g.2.2) ∧
   ((z.3 = g.2.3) ∧
   ((z.4 = g.2.4) ∧
   ((z.5 = g.2.5) ∧
   ((c = errL g.1) ∧
   ((Eq (α := List Value) (seCells l) (seCells g.1)) ∧
   ((Plain (seCells l)) ∧
   True))))))))))))))))))))))))))))))))))))))) := by kernel_rfl

theorem seC_plain (l : List Se) : Plain (seCells l) := by
  intro v hv
  obtain ⟨a, _, h⟩ := List.mem_flatMap.1 hv
  simp [seC] at h
  rcases h with rfl | rfl <;> rfl
theorem seC_len (l : List Se) : (seCells l).length = l.length * 2 := by
  induction l with
  | nil => rfl
  | cons a l ih => unfold seCells at ih ⊢; rw [List.flatMap_cons, List.length_append, ih]; simp [seC]; omega
theorem seC_get (l : List Se) (i : Nat) (h : i < l.length) : ∃ a : Se, l.drop i = a :: l.drop (i + 1) ∧ (seCells l)[i * 2]? = some (.int .i64 a.i) ∧ (seCells l)[i * 2 + 1]? = some (.int .i64 a.v) := by
  induction l generalizing i with
  | nil => simp at h
  | cons a l ih =>
    cases i with
    | zero => exact ⟨a, rfl, rfl, rfl⟩
    | succ i =>
      obtain ⟨b, h0, h1, h2⟩ := ih i (by simpa using h)
      have e : ∀ q, (seCells (a :: l))[q + 2]? = (seCells l)[q]? := fun q => by
        unfold seCells; rw [List.flatMap_cons]; simp [seC]
      refine ⟨b, by simpa using h0, ?_, ?_⟩
      · rw [show (i + 1) * 2 = i * 2 + 2 by omega, e, h1]
      · rw [show (i + 1) * 2 + 1 = i * 2 + 1 + 2 by omega, e, h2]
theorem cellI_of {l : List Value} {i : Nat} {k : IntKind} {n : Int} (h : l[i]? = some (.int k n)) : cellI l i = n := by unfold cellI; rw [h]
theorem cA_ok : ∀ f a rows p v news, cA f a rows = some (p, v, news) → p → Con Try.prog f a rows v (rows ++ news) := by
  intro f a rows p v news h hp
  unfold cA at h
  split at h <;> simp only [Option.some.injEq, Prod.mk.injEq, reduceCtorEq] at h <;> obtain ⟨rfl, rfl, rfl⟩ := h
  · exact value_con ⟨_, _⟩
  · exact set_con ⟨_, _, _, _, _⟩ ⟨_, _⟩
def invApp (g : GApp) (s : SApp) : Prop := s.i ≤ g.l.length ∧ errL (g.l.drop s.i) = errL g.l ∧ finL s.y (g.l.drop s.i) = finL g.x g.l
def msApp (g : GApp) (s : SApp) : Nat := g.l.length - s.i
theorem app_piece : PieceOk EA 1 (9, pApp, specApp) := by
  refine piece_loop mixed (calls_envC cA_ok) (lok_envC _ _ _) lm_none (n := 60) (by kernel_rfl) (fun g : GApp => (⟨0, g.x⟩ : SApp)) invApp msApp (sl := slApp) (rl := rlApp) (fun g hg => ⟨Nat.zero_le _, rfl, rfl⟩) (fun g s hg hi => ?_)
  refine (app_round g s _ _).mpr ?_
  obtain ⟨i, y⟩ := s
  obtain ⟨h1, h2, h3⟩ := hi
  have hm : maxLen = 9223372036854775807 := by unfold maxLen; rfl
  simp only at h1 h2 h3
  simp only [ofNat_eq, toNat_cast, Nat.zero_add, Nat.add_zero, Nat.mul_one, List.drop_zero, bCells_len, bCells_drop, bCells_take, bCells_app, bCells_one, bCells_plain, List.length_replicate, List.length_append, List.length_take, List.length_drop, List.take_length, and_true, true_and, and_self, decide_true, List.length_nil, List.length_cons, Nat.sub_zero, dB_mk, dB_ro, List.take_zero, seC_plain]
  refine br_if (fun h => br_dec (by omega) ?_) (fun h => ?_)
  · obtain ⟨a, h0, c1, c2⟩ := seC_get g.l i (by omega)
    rw [h0, errL] at h2
    rw [h0, finL] at h3
    have w : IntKind.i64.wrap ((i : Int) + 1) = ((i + 1 : Nat) : Int) := by rw [wr64_id (by unfold I64; omega)]; omega
    simp only [cellI_of c1, cellI_of c2, c1, c2, w, true_and, vlI, putI]
    refine br_intro (fun h => ?_) (fun h => ?_)
    · have h : vl a ≠ 0 := by simpa using h
      rw [if_neg h] at h2
      exact ⟨(), by rw [← h2]; exact h, h2.symm⟩
    · have h : vl a = 0 := by simpa using h
      rw [if_pos h] at h2
      exact ⟨⟨i + 1, put y a⟩, ⟨by simp only; omega, h2, h3⟩, by unfold msApp; simp only; omega, rfl, rfl, rfl, rfl, rfl, rfl⟩
  · rw [List.drop_eq_nil_of_le (by omega)] at h2 h3
    refine ⟨(), h2.symm, ?_⟩
    rw [← h3]; exact ⟨rfl, rfl, rfl, rfl, rfl⟩
theorem app_con (x : St) (l : List Se) (hl : l.length ≤ maxLen) : Con Try.prog 9 [stV x, .slice (some ⟨0, 0, none⟩) l.length 2] [seRo l] (.tuple #[stV (appSt x l), .int .i64 (errL l)]) [seRo l] := by
  refine con_vc (E := EA) mixed (calls_envC cA_ok) (lok_envC _ _ _) (M := mApp) (lm_one app_piece) (app_vc x l _ _) ?_
  have hm : maxLen = 9223372036854775807 := by unfold maxLen; rfl
  simp only [ofNat_eq, toNat_cast, Nat.zero_add, Nat.add_zero, Nat.mul_one, List.drop_zero, bCells_len, bCells_drop, bCells_take, bCells_app, bCells_one, bCells_plain, List.length_replicate, List.length_append, List.length_take, List.length_drop, List.take_length, and_true, true_and, and_self, decide_true, List.length_nil, List.length_cons, Nat.sub_zero, dB_mk, dB_ro, List.take_zero, seC_plain]
  refine ⟨⟨l, x⟩, by simp only; omega, rfl, rfl, rfl, rfl, rfl, rfl, rfl, rfl, rfl, rfl, rfl, rfl, rfl, rfl, fun side => ?_⟩
  cases side
  · refine fun _ h => ?_
    have e : appSt x l = x := if_neg h
    rw [e]; exact ⟨rfl, rfl, rfl, rfl, rfl, rfl, rfl⟩
  · refine fun _ h => ?_
    have e : appSt x l = finL x l := if_pos h
    rw [e]; exact ⟨rfl, rfl, rfl, rfl, rfl, h, rfl⟩
theorem err_app (b : List Se) : ∀ a : List Se, errL (a ++ b) = if errL a = 0 then errL b else errL a
  | [] => by simp [errL]
  | s :: a => by
    rw [List.cons_append, errL, errL]
    by_cases h : vl s = 0
    · rw [if_pos h, if_pos h, err_app b a]
    · rw [if_neg h, if_neg h, if_neg h]
theorem fin_app (b : List Se) : ∀ (a : List Se) (x : St), finL x (a ++ b) = finL (finL x a) b
  | [], x => rfl
  | s :: a, x => by rw [List.cons_append, finL, fin_app b a, finL]
end Go.Proofs.Ytocehonfnpjcjaa.s11
