/- Settings, told to a set, by the document. -/
import Derived.Test.YtocehonfnpjcjaaSz9
import Derived.Test.YtocehonfnpjcjaaRows
import Derived.Test.YtocehonfnpjcjaaLs11e
set_option linter.unusedSimpArgs false
set_option linter.unusedVariables false
namespace Go.Proofs.Ytocehonfnpjcjaa.s11
open Go Go.Ev Go.Sy Go.RowKit
noncomputable def cR : FuncId → List Value → List Row → Option (Prop × Value × List Row)
  | 16, [.agg ⟨[.int .i64 i, .int .i64 v]⟩], [] => some (True, .int .i64 (vlI i v), [])
  | _, _, _ => none
noncomputable abbrev ER : Env := envC Try.prog cR (fun f => Nat.beq f 16)
def pR1 : List Nat := [0, 1, 0, 1]
def pR2 : List Nat := [0, 1, 0, 1, 1]
structure SR1 where
  i : Nat
def slR1 (g : GApp) (s : SR1) : List (Nat × Value) := [(1, .slice (some ⟨0, 0, none⟩) g.l.length 2), (2, .pointer (some ⟨1, 0, none⟩)), (4, .pointer (some ⟨2, 0, none⟩)), (6, .int .i64 (s.i : Nat))]
def rlR1 (g : GApp) (_ : SR1) : List (Nat × Row) := [(0, seRo g.l), (1, stRow g.x), (2, stRow st0)]
noncomputable def wsR1 (g : GApp) : List (Gate Unit) := [⟨.exit 0, fun _ => errL g.l = 0, fun _ => [(1, .slice (some ⟨0, 0, none⟩) g.l.length 2), (2, .pointer (some ⟨1, 0, none⟩)), (4, .pointer (some ⟨2, 0, none⟩))], fun _ => [(0, seRo g.l), (1, stRow g.x), (2, stRow st0)], 3⟩,
  ⟨.ret, fun _ => errL g.l ≠ 0, fun _ => [(4, .pointer (some ⟨1, 0, none⟩)), (5, .int .i64 (errL g.l))], fun _ => [(0, seRo g.l), (1, stRow g.x)], 2⟩]
noncomputable def specR1 : Sy.Spec := specOf 1 3 64 (fun g : GApp => g.l.length ≤ maxLen) (fun g => slR1 g ⟨0⟩) (fun g => rlR1 g ⟨0⟩) wsR1
def slR2 (g : GApp) (s : SApp) : List (Nat × Value) := [(1, .slice (some ⟨0, 0, none⟩) g.l.length 2), (2, .pointer (some ⟨1, 0, none⟩)), (4, .pointer (some ⟨2, 0, none⟩)), (8, .int .i64 (s.i : Nat))]
def rlR2 (g : GApp) (s : SApp) : List (Nat × Row) := [(0, seRo g.l), (1, stRow s.y), (2, stRow st0)]
noncomputable def wsR2 (g : GApp) : List (Gate Unit) := [⟨.exit 2, fun _ => True, fun _ => [(2, .pointer (some ⟨1, 0, none⟩)), (4, .pointer (some ⟨2, 0, none⟩))], fun _ => [(0, seRo g.l), (1, stRow (finL g.x g.l)), (2, stRow st0)], 3⟩]
noncomputable def specR2 : Sy.Spec := specOf 1 3 64 (fun g : GApp => g.l.length ≤ maxLen) (fun g => slR2 g ⟨0, g.x⟩) (fun g => rlR2 g ⟨0, g.x⟩) wsR2
noncomputable def mR := mOf [(15, pR1, specR1), (15, pR2, specR2)]
theorem r1_round (g : GApp) (i : SR1) (Inv : SR1 → Prop) (m : SR1 → Nat) : mev ER noM 60 15 (0 :: pR1) false (codeOf Try.prog 15 (0 :: pR1)) ⟨mkOv (slR1 g i), 64, []⟩ none ⟨mkR (rlR1 g i), 3⟩ (roundK 1 3 64 Inv m (slR1 g) (rlR1 g) (wsR1 g) i) =
  (br (decide ((↑i.1 : Int) < Int.ofNat (List.length g.1)))
   (br (decide ((0 : Int) ≤ (↑i.1 : Int) ∧ (↑i.1 : Int) < (↑(List.length g.1) : Int)))
    ((Eq (α := Option Value) ((seCells g.1)[(0 : Nat) + Int.toNat (↑i.1 : Int) * (2 : Nat)]?) (some (Value.int IntKind.i64 (cellI (seCells g.1) ((0 : Nat) + Int.toNat (↑i.1 : Int) * (2 : Nat)))))) ∧
    ((Eq (α := Option Value) ((seCells g.1)[(0 : Nat) + Int.toNat (↑i.1 : Int) * (2 : Nat) + (1 : Nat)]?) (some (Value.int IntKind.i64 (cellI (seCells g.1) ((0 : Nat) + Int.toNat (↑i.1 : Int) * (2 : Nat) + (1 : Nat)))))) ∧
    (((((True ∧ (True ∧ True)) ∧ True) ∧ (True ∧ True))) ∧
    (br (vlI (cellI (seCells g.1) ((0 : Nat) + Int.toNat (↑i.1 : Int) * (2 : Nat))) (cellI (seCells g.1) ((0 : Nat) + Int.toNat (↑i.1 : Int) * (2 : Nat) + (1 : Nat))) != (0 : Int))
     (∃ y : Unit, ((errL g.1 ≠ (0 : Int)) ∧
     (((0 : Nat) = (0 : Nat)) ∧
     ((errL g.1 = vlI (cellI (seCells g.1) ((0 : Nat) + Int.toNat (↑i.1 : Int) * (2 : Nat))) (cellI (seCells g.1) ((0 : Nat) + Int.toNat (↑i.1 : Int) * (2 : Nat) + (1 : Nat)))) ∧
     ((Eq (α := List Value) (seCells g.1) (seCells g.1)) ∧
     ((Plain (seCells g.1)) ∧
     ((g.2.1 = g.2.1) ∧
     ((g.2.2 = g.2.2) ∧
     ((g.2.3 = g.2.3) ∧
     ((g.2.4 = g.2.4) ∧
     ((g.2.5 = g.2.5) ∧
     True)))))))))))
     (∃ j : SR1, ((Inv j) ∧
     ((m j < m i) ∧
     (((0 : Nat) = (0 : Nat)) ∧
     ((List.length g.1 = List.length g.1) ∧
     (((0 : Nat) = (0 : Nat)) ∧
     (((0 : Nat) = (0 : Nat)) ∧
     (((↑j.1 : Int) = IntKind.wrap IntKind.i64 ((↑i.1 : Int) + (1 : Int))) ∧
     ((Eq (α := List Value) (seCells g.1) (seCells g.1)) ∧
     ((Plain (seCells g.1)) ∧
     ((g.2.1 = g.2.1) ∧
     ((g.2.2 = g.2.2) ∧
     ((g.2.3 = g.2.3) ∧
     ((g.2.4 = g.2.4) ∧
     ((g.2.5 = g.2.5) ∧
     (((0 : Int) = (0 : Int)) ∧
     (((0 : Int) = (0 : Int)) ∧
     (((0 : Int) = (0 : Int)) ∧
     (((0 : Int) = (0 : Int)) ∧
     (((0 : Int) = (0 : Int)) ∧
     True))))))))))))))))))))))))
    False)
   (∃ y : Unit, ((errL g.1 = (0 : Int)) ∧
   (((0 : Nat) = (0 : Nat)) ∧
   ((List.length g.1 = List.length g.1) ∧
   (((0 : Nat) = (0 : Nat)) ∧
   (((0 : Nat) = (0 : Nat)) ∧
   ((Eq (α := List Value) (seCells g.1) (seCells g.1)) ∧
   ((Plain (seCells g.1)) ∧
   ((g.2.1 = g.2.1) ∧
   ((g.2.2 = g.2.2) ∧
   ((g.2.3 = g.2.3) ∧
   ((g.2.4 = g.2.4) ∧
   ((g.2.5 = g.2.5) ∧
   (((0 : Int) = (0 : Int)) ∧
   (((0 : Int) = (0 : Int)) ∧
   (((0 : Int) = (0 : Int)) ∧
   (((0 : Int) = (0 : Int)) ∧
   (((0 : Int) = (0 : Int)) ∧
   True))))))))))))))))))) := by kernel_rfl
theorem r2_round (g : GApp) (i : SApp) (Inv : SApp → Prop) (m : SApp → Nat) : mev ER noM 60 15 (0 :: pR2) false (codeOf Try.prog 15 (0 :: pR2)) ⟨mkOv (slR2 g i), 64, []⟩ none ⟨mkR (rlR2 g i), 3⟩ (roundK 1 3 64 Inv m (slR2 g) (rlR2 g) (wsR2 g) i) =
  (br (decide ((↑i.1 : Int) < Int.ofNat (List.length g.1)))
   (br (decide ((0 : Int) ≤ (↑i.1 : Int) ∧ (↑i.1 : Int) < (↑(List.length g.1) : Int)))
    ((Eq (α := Option Value) ((seCells g.1)[(0 : Nat) + Int.toNat (↑i.1 : Int) * (2 : Nat) + (1 : Nat)]?) (some (Value.int IntKind.i64 (cellI (seCells g.1) ((0 : Nat) + Int.toNat (↑i.1 : Int) * (2 : Nat) + (1 : Nat)))))) ∧
    (br (decide ((0 : Int) ≤ (↑i.1 : Int) ∧ (↑i.1 : Int) < (↑(List.length g.1) : Int)))
     ((Eq (α := Option Value) ((seCells g.1)[(0 : Nat) + Int.toNat (↑i.1 : Int) * (2 : Nat) + (0 : Nat)]?) (some (Value.int IntKind.i64 (cellI (seCells g.1) ((0 : Nat) + Int.toNat (↑i.1 : Int) * (2 : Nat) + (0 : Nat)))))) ∧
     (br (cellI (seCells g.1) ((0 : Nat) + Int.toNat (↑i.1 : Int) * (2 : Nat) + (0 : Nat)) == (1 : Int))
      (∃ j : SApp, ((Inv j) ∧
      ((m j < m i) ∧
      (((0 : Nat) = (0 : Nat)) ∧
      ((List.length g.1 = List.length g.1) ∧
      (((0 : Nat) = (0 : Nat)) ∧
      (((0 : Nat) = (0 : Nat)) ∧
      (((↑j.1 : Int) = IntKind.wrap IntKind.i64 ((↑i.1 : Int) + (1 : Int))) ∧
      ((Eq (α := List Value) (seCells g.1) (seCells g.1)) ∧
      ((Plain (seCells g.1)) ∧
      ((j.2.1 = if (if (2147483647 : Int) < cellI (seCells g.1) ((0 : Nat) + Int.toNat (↑i.1 : Int) * (2 : Nat) + (1 : Nat)) then (2147483647 : Int) else cellI (seCells g.1) ((0 : Nat) + Int.toNat (↑i.1 : Int) * (2 : Nat) + (1 : Nat))) > (0 : Int) then if (2147483647 : Int) < cellI (seCells g.1) ((0 : Nat) + Int.toNat (↑i.1 : Int) * (2 : Nat) + (1 : Nat)) then (2147483647 : Int) else cellI (seCells g.1) ((0 : Nat) + Int.toNat (↑i.1 : Int) * (2 : Nat) + (1 : Nat)) else (0 : Int)) ∧
      ((j.2.2 = i.2.2) ∧
      ((j.2.3 = i.2.3) ∧
      ((j.2.4 = i.2.4) ∧
      ((j.2.5 = i.2.5) ∧
      (((0 : Int) = (0 : Int)) ∧
      (((0 : Int) = (0 : Int)) ∧
      (((0 : Int) = (0 : Int)) ∧
      (((0 : Int) = (0 : Int)) ∧
      (((0 : Int) = (0 : Int)) ∧
      True))))))))))))))))))))
      (br (cellI (seCells g.1) ((0 : Nat) + Int.toNat (↑i.1 : Int) * (2 : Nat) + (0 : Nat)) == (3 : Int))
       (∃ j : SApp, ((Inv j) ∧
       ((m j < m i) ∧
       (((0 : Nat) = (0 : Nat)) ∧
       ((List.length g.1 = List.length g.1) ∧
       (((0 : Nat) = (0 : Nat)) ∧
       (((0 : Nat) = (0 : Nat)) ∧
       (((↑j.1 : Int) = IntKind.wrap IntKind.i64 ((↑i.1 : Int) + (1 : Int))) ∧
       ((Eq (α := List Value) (seCells g.1) (seCells g.1)) ∧
       ((Plain (seCells g.1)) ∧
       ((j.2.1 = i.2.1) ∧
       ((j.2.2 = if (if (2147483647 : Int) < cellI (seCells g.1) ((0 : Nat) + Int.toNat (↑i.1 : Int) * (2 : Nat) + (1 : Nat)) then (2147483647 : Int) else cellI (seCells g.1) ((0 : Nat) + Int.toNat (↑i.1 : Int) * (2 : Nat) + (1 : Nat))) > (0 : Int) then if (2147483647 : Int) < cellI (seCells g.1) ((0 : Nat) + Int.toNat (↑i.1 : Int) * (2 : Nat) + (1 : Nat)) then (2147483647 : Int) else cellI (seCells g.1) ((0 : Nat) + Int.toNat (↑i.1 : Int) * (2 : Nat) + (1 : Nat)) else (0 : Int)) ∧
       ((j.2.3 = i.2.3) ∧
       ((j.2.4 = i.2.4) ∧
       ((j.2.5 = i.2.5) ∧
       (((0 : Int) = (0 : Int)) ∧
       (((0 : Int) = (0 : Int)) ∧
       (((0 : Int) = (0 : Int)) ∧
       (((0 : Int) = (0 : Int)) ∧
       (((0 : Int) = (0 : Int)) ∧
       True))))))))))))))))))))
       (br (cellI (seCells g.1) ((0 : Nat) + Int.toNat (↑i.1 : Int) * (2 : Nat) + (0 : Nat)) == (4 : Int))
        (∃ j : SApp, ((Inv j) ∧
        ((m j < m i) ∧
        (((0 : Nat) = (0 : Nat)) ∧
        ((List.length g.1 = List.length g.1) ∧
        (((0 : Nat) = (0 : Nat)) ∧
        (((0 : Nat) = (0 : Nat)) ∧
        (((↑j.1 : Int) = IntKind.wrap IntKind.i64 ((↑i.1 : Int) + (1 : Int))) ∧
        ((Eq (α := List Value) (seCells g.1) (seCells g.1)) ∧
        ((Plain (seCells g.1)) ∧
        ((j.2.1 = i.2.1) ∧
        ((j.2.2 = i.2.2) ∧
        ((j.2.3 = if (if (2147483647 : Int) < cellI (seCells g.1) ((0 : Nat) + Int.toNat (↑i.1 : Int) * (2 : Nat) + (1 : Nat)) then (2147483647 : Int) else cellI (seCells g.1) ((0 : Nat) + Int.toNat (↑i.1 : Int) * (2 : Nat) + (1 : Nat))) > (0 : Int) then if (2147483647 : Int) < cellI (seCells g.1) ((0 : Nat) + Int.toNat (↑i.1 : Int) * (2 : Nat) + (1 : Nat)) then (2147483647 : Int) else cellI (seCells g.1) ((0 : Nat) + Int.toNat (↑i.1 : Int) * (2 : Nat) + (1 : Nat)) else (0 : Int)) ∧
        ((j.2.4 = i.2.4) ∧
        ((j.2.5 = i.2.5) ∧
        (((0 : Int) = (0 : Int)) ∧
        (((0 : Int) = (0 : Int)) ∧
        (((0 : Int) = (0 : Int)) ∧
        (((0 : Int) = (0 : Int)) ∧
        (((0 : Int) = (0 : Int)) ∧
        True))))))))))))))))))))
        (br (cellI (seCells g.1) ((0 : Nat) + Int.toNat (↑i.1 : Int) * (2 : Nat) + (0 : Nat)) == (5 : Int))
         (∃ j : SApp, ((Inv j) ∧
         ((m j < m i) ∧
         (((0 : Nat) = (0 : Nat)) ∧
         ((List.length g.1 = List.length g.1) ∧
         (((0 : Nat) = (0 : Nat)) ∧
         (((0 : Nat) = (0 : Nat)) ∧
         (((↑j.1 : Int) = IntKind.wrap IntKind.i64 ((↑i.1 : Int) + (1 : Int))) ∧
         ((Eq (α := List Value) (seCells g.1) (seCells g.1)) ∧
         ((Plain (seCells g.1)) ∧
         ((j.2.1 = i.2.1) ∧
         ((j.2.2 = i.2.2) ∧
         ((j.2.3 = i.2.3) ∧
         ((j.2.4 = if (if (2147483647 : Int) < cellI (seCells g.1) ((0 : Nat) + Int.toNat (↑i.1 : Int) * (2 : Nat) + (1 : Nat)) then (2147483647 : Int) else cellI (seCells g.1) ((0 : Nat) + Int.toNat (↑i.1 : Int) * (2 : Nat) + (1 : Nat))) > (0 : Int) then if (2147483647 : Int) < cellI (seCells g.1) ((0 : Nat) + Int.toNat (↑i.1 : Int) * (2 : Nat) + (1 : Nat)) then (2147483647 : Int) else cellI (seCells g.1) ((0 : Nat) + Int.toNat (↑i.1 : Int) * (2 : Nat) + (1 : Nat)) else (0 : Int)) ∧
         ((j.2.5 = i.2.5) ∧
         (((0 : Int) = (0 : Int)) ∧
         (((0 : Int) = (0 : Int)) ∧
         (((0 : Int) = (0 : Int)) ∧
         (((0 : Int) = (0 : Int)) ∧
         (((0 : Int) = (0 : Int)) ∧
         True))))))))))))))))))))
         (br (cellI (seCells g.1) ((0 : Nat) + Int.toNat (↑i.1 : Int) * (2 : Nat) + (0 : Nat)) == (6 : Int))
          (∃ j : SApp, ((Inv j) ∧
          ((m j < m i) ∧
          (((0 : Nat) = (0 : Nat)) ∧
          ((List.length g.1 = List.length g.1) ∧
          (((0 : Nat) = (0 : Nat)) ∧
          (((0 : Nat) = (0 : Nat)) ∧
          (((↑j.1 : Int) = IntKind.wrap IntKind.i64 ((↑i.1 : Int) + (1 : Int))) ∧
          ((Eq (α := List Value) (seCells g.1) (seCells g.1)) ∧
          ((Plain (seCells g.1)) ∧
          ((j.2.1 = i.2.1) ∧
          ((j.2.2 = i.2.2) ∧
          ((j.2.3 = i.2.3) ∧
          ((j.2.4 = i.2.4) ∧
          ((j.2.5 = if (if (2147483647 : Int) < cellI (seCells g.1) ((0 : Nat) + Int.toNat (↑i.1 : Int) * (2 : Nat) + (1 : Nat)) then (2147483647 : Int) else cellI (seCells g.1) ((0 : Nat) + Int.toNat (↑i.1 : Int) * (2 : Nat) + (1 : Nat))) > (0 : Int) then if (2147483647 : Int) < cellI (seCells g.1) ((0 : Nat) + Int.toNat (↑i.1 : Int) * (2 : Nat) + (1 : Nat)) then (2147483647 : Int) else cellI (seCells g.1) ((0 : Nat) + Int.toNat (↑i.1 : Int) * (2 : Nat) + (1 : Nat)) else (0 : Int)) ∧
          (((0 : Int) = (0 : Int)) ∧
          (((0 : Int) = (0 : Int)) ∧
          (((0 : Int) = (0 : Int)) ∧
          (((0 : Int) = (0 : Int)) ∧
          (((0 : Int) = (0 : Int)) ∧
          True))))))))))))))))))))
          (∃ j : SApp, ((Inv j) ∧
          ((m j < m i) ∧
          (((0 : Nat) = (0 : Nat)) ∧
          ((List.length g.1 = List.length g.1) ∧
          (((0 : Nat) = (0 : Nat)) ∧
          (((0 : Nat) = (0 : Nat)) ∧
          (((↑j.1 : Int) = IntKind.wrap IntKind.i64 ((↑i.1 : Int) + (1 : Int))) ∧
          ((Eq (α := List Value) (seCells g.1) (seCells g.1)) ∧
          ((Plain (seCells g.1)) ∧
          ((j.2.1 = i.2.1) ∧
          ((j.2.2 = i.2.2) ∧
          ((j.2.3 = i.2.3) ∧
          ((j.2.4 = i.2.4) ∧
          ((j.2.5 = i.2.5) ∧
          (((0 : Int) = (0 : Int)) ∧
          (((0 : Int) = (0 : Int)) ∧
          (((0 : Int) = (0 : Int)) ∧
          (((0 : Int) = (0 : Int)) ∧
          (((0 : Int) = (0 : Int)) ∧
          True))))))))))))))))))))))))))
     False))
    False)
   (∃ y : Unit, ((True) ∧
   (((0 : Nat) = (0 : Nat)) ∧
   (((0 : Nat) = (0 : Nat)) ∧
   ((Eq (α := List Value) (seCells g.1) (seCells g.1)) ∧
   ((Plain (seCells g.1)) ∧
   (((finL (GApp.x g) g.1).1 = i.2.1) ∧
   (((finL (GApp.x g) g.1).2 = i.2.2) ∧
   (((finL (GApp.x g) g.1).3 = i.2.3) ∧
   (((finL (GApp.x g) g.1).4 = i.2.4) ∧
   (((finL (GApp.x g) g.1).5 = i.2.5) ∧
   (((0 : Int) = (0 : Int)) ∧
   (((0 : Int) = (0 : Int)) ∧
   (((0 : Int) = (0 : Int)) ∧
   (((0 : Int) = (0 : Int)) ∧
   (((0 : Int) = (0 : Int)) ∧
   True))))))))))))))))) := by kernel_rfl
theorem rapp_vc (x : St) (l : List Se) (z : St) (c : Int) : mcall ER mR 60 15 [stV x, .slice (some ⟨0, 0, none⟩) l.length 2] ⟨mkR (nums 0 [seRo l]), 1⟩ (retIs 1 (.tuple #[stV z, .int .i64 c]) [seRo l]) =
  (∃ g : GApp, ((List.length g.1 ≤ (9223372036854775807 : Nat)) ∧
  (((0 : Nat) = (0 : Nat)) ∧
  ((List.length g.1 = List.length l) ∧
  (((0 : Nat) = (0 : Nat)) ∧
  (((0 : Nat) = (0 : Nat)) ∧
  (((0 : Int) = (0 : Int)) ∧
  ((Eq (α := List Value) (seCells g.1) (seCells l)) ∧
  ((Plain (seCells g.1)) ∧
  ((g.2.1 = x.1) ∧
  ((g.2.2 = x.2) ∧
  ((g.2.3 = x.3) ∧
  ((g.2.4 = x.4) ∧
  ((g.2.5 = x.5) ∧
  (((0 : Int) = (0 : Int)) ∧
  (((0 : Int) = (0 : Int)) ∧
  (((0 : Int) = (0 : Int)) ∧
  (((0 : Int) = (0 : Int)) ∧
  (((0 : Int) = (0 : Int)) ∧
  (∀ (side : Bool), (br (side)
   (∀ (y : Unit), ((errL (GApp.l g) = (0 : Int)) →
   (∃ g2 : GApp, ((List.length g2.1 ≤ (9223372036854775807 : Nat)) ∧
   (((0 : Nat) = (0 : Nat)) ∧
   ((List.length g2.1 = List.length g.1) ∧
   (((0 : Nat) = (0 : Nat)) ∧
   (((0 : Nat) = (0 : Nat)) ∧
   (((↑(0 : Nat) : Int) = (0 : Int)) ∧
   ((Eq (α := List Value) (seCells g2.1) (seCells g.1)) ∧
   ((Plain (seCells g2.1)) ∧
   ((g2.2.1 = g.2.1) ∧
   ((g2.2.2 = g.2.2) ∧
   ((g2.2.3 = g.2.3) ∧
   ((g2.2.4 = g.2.4) ∧
   ((g2.2.5 = g.2.5) ∧
   (((0 : Int) = (0 : Int)) ∧
   (((0 : Int) = (0 : Int)) ∧
   (((0 : Int) = (0 : Int)) ∧
   (((0 : Int) = (0 : Int)) ∧
   (((0 : Int) = (0 : Int)) ∧
   (∀ (y2 : Unit), ((True) →
   ((z.1 = (finL (GApp.x g2) g2.1).1) ∧
   ((z.2 = (finL (GApp.x g2) g2.1).2) ∧
   ((z.3 = (finL (GApp.x g2) g2.1).3) ∧
   ((z.4 = (finL (GApp.x g2) g2.1).4) ∧
   ((z.5 = (finL (GApp.x g2) g2.1).5) ∧
   ((c = (0 : Int)) ∧
   ((Eq (α := List Value) (seCells l) (seCells g2.1)) ∧
   ((Plain (seCells l)) ∧
   True)))))))))))))))))))))))))))))))
   (∀ (y : Unit), ((errL (GApp.l g) = (0 : Int) → False) →
   ((z.1 = g.2.1) ∧
   ((z.2 = g.2.2) ∧
   ((z.3 = g.2.3) ∧
   ((z.4 = g.2.4) ∧
   ((z.5 = g.2.5) ∧
   ((c = errL g.1) ∧
   ((Eq (α := List Value) (seCells l) (seCells g.1)) ∧
   ((Plain (seCells l)) ∧
   True))))))))))))))))))))))))))))))) := by kernel_rfl
theorem cR_ok : ∀ f a rows p v news, cR f a rows = some (p, v, news) → p → Con Try.prog f a rows v (rows ++ news) := by
  intro f a rows p v news h hp
  unfold cR at h
  split at h <;> simp only [Option.some.injEq, Prod.mk.injEq, reduceCtorEq] at h <;> obtain ⟨rfl, rfl, rfl⟩ := h
  · rename_i i v
    have := rvalue_con ⟨i, v⟩
    rw [← vl_eq] at this
    exact this
def invR1 (g : GApp) (s : SR1) : Prop := s.i ≤ g.l.length ∧ errL (g.l.drop s.i) = errL g.l
theorem r1_piece : PieceOk ER 1 (15, pR1, specR1) := by
  refine piece_loop mixed (calls_envC cR_ok) (lok_envC _ _ _) lm_none (n := 60) (by kernel_rfl) (fun g : GApp => (⟨0⟩ : SR1)) invR1 (fun g s => g.l.length - s.i) (sl := slR1) (rl := rlR1) (fun g hg => ⟨Nat.zero_le _, rfl⟩) (fun g s hg hi => ?_)
  refine (r1_round g s _ _).mpr ?_
  obtain ⟨i⟩ := s
  obtain ⟨h1, h2⟩ := hi
  have hm : maxLen = 9223372036854775807 := by unfold maxLen; rfl
  simp only at h1 h2
  simp only [ofNat_eq, toNat_cast, Nat.zero_add, Nat.add_zero, Nat.mul_one, List.drop_zero, bCells_len, bCells_drop, bCells_take, bCells_app, bCells_one, bCells_plain, List.length_replicate, List.length_append, List.length_take, List.length_drop, List.take_length, and_true, true_and, and_self, decide_true, List.length_nil, List.length_cons, Nat.sub_zero, dB_mk, dB_ro, List.take_zero, seC_plain]
  refine br_if (fun h => br_dec (by omega) ?_) (fun h => ?_)
  · obtain ⟨a, h0, c1, c2⟩ := seC_get g.l i (by omega)
    rw [h0, errL] at h2
    simp only [cellI_of c1, cellI_of c2, c1, c2, true_and, vlI]
    refine br_intro (fun h => ?_) (fun h => ?_)
    · have h : vl a ≠ 0 := by simpa using h
      rw [if_neg h] at h2
      exact ⟨(), by rw [← h2]; exact h, h2.symm⟩
    · have h : vl a = 0 := by simpa using h
      rw [if_pos h] at h2
      exact ⟨⟨i + 1⟩, ⟨by simp only; omega, h2⟩, by simp only; omega, (i64_succ (by omega)).symm⟩
  · rw [List.drop_eq_nil_of_le (by omega)] at h2
    exact ⟨(), h2.symm⟩
theorem r2_piece : PieceOk ER 1 (15, pR2, specR2) := by
  refine piece_loop mixed (calls_envC cR_ok) (lok_envC _ _ _) lm_none (n := 60) (by kernel_rfl) (fun g : GApp => (⟨0, g.x⟩ : SApp)) (fun g s => s.i ≤ g.l.length ∧ finL s.y (g.l.drop s.i) = finL g.x g.l) (fun g s => g.l.length - s.i) (sl := slR2) (rl := rlR2) (fun g hg => ⟨Nat.zero_le _, rfl⟩) (fun g s hg hi => ?_)
  refine (r2_round g s _ _).mpr ?_
  obtain ⟨i, y⟩ := s
  obtain ⟨h1, h2⟩ := hi
  have hm : maxLen = 9223372036854775807 := by unfold maxLen; rfl
  simp only at h1 h2
  simp only [ofNat_eq, toNat_cast, Nat.zero_add, Nat.add_zero, Nat.mul_one, List.drop_zero, bCells_len, bCells_drop, bCells_take, bCells_app, bCells_one, bCells_plain, List.length_replicate, List.length_append, List.length_take, List.length_drop, List.take_length, and_true, true_and, and_self, decide_true, List.length_nil, List.length_cons, Nat.sub_zero, dB_mk, dB_ro, List.take_zero, seC_plain]
  refine br_if (fun h => br_dec (by omega) ?_) (fun h => ?_)
  · obtain ⟨a, h0, c1, c2⟩ := seC_get g.l i (by omega)
    rw [h0, finL] at h2
    have w := i64_succ (show i < 9223372036854775807 by omega)
    simp only [cellI_of c1, cellI_of c2, c1, c2, true_and, w]
    have hp := put_eq y a
    repeat' refine br_intro (fun _ => ?_) (fun _ => ?_)
    all_goals first
      | refine ⟨⟨i + 1, put y a⟩, ⟨by simp only; omega, h2⟩, by simp only; omega, rfl, ?_⟩
      | (rename_i hf; exact absurd (by omega) (of_decide_eq_false hf))
    all_goals (rw [hp]; unfold putE clI; simp only; grind)
  · rw [List.drop_eq_nil_of_le (by omega)] at h2
    refine ⟨(), ?_⟩
    rw [← h2]; exact ⟨rfl, rfl, rfl, rfl, rfl⟩
theorem rapp_con (x : St) (l : List Se) (hl : l.length ≤ maxLen) : Con Try.prog 15 [stV x, .slice (some ⟨0, 0, none⟩) l.length 2] [seRo l] (.tuple #[stV (appSt x l), .int .i64 (errL l)]) [seRo l] := by
  refine con_vc (E := ER) mixed (calls_envC cR_ok) (lok_envC _ _ _) (M := mR) (lm_two r1_piece r2_piece) (rapp_vc x l _ _) ?_
  simp only [ofNat_eq, toNat_cast, Nat.zero_add, Nat.add_zero, Nat.mul_one, List.drop_zero, bCells_len, bCells_drop, bCells_take, bCells_app, bCells_one, bCells_plain, List.length_replicate, List.length_append, List.length_take, List.length_drop, List.take_length, and_true, true_and, and_self, decide_true, List.length_nil, List.length_cons, Nat.sub_zero, dB_mk, dB_ro, List.take_zero, seC_plain]
  have hm : maxLen = 9223372036854775807 := by unfold maxLen; rfl
  refine ⟨⟨l, x⟩, by simp only; omega, rfl, rfl, rfl, rfl, rfl, rfl, rfl, br_side (fun _ h => ⟨⟨l, x⟩, by simp only; omega, rfl, rfl, rfl, rfl, rfl, rfl, rfl, rfl, fun _ _ => ?_⟩) (fun _ h => ?_)⟩
  · have e : appSt x l = finL x l := if_pos h
    rw [e]; exact ⟨rfl, rfl, rfl, rfl, rfl, h, rfl⟩
  · have e : appSt x l = x := if_neg h
    rw [e]; exact ⟨rfl, rfl, rfl, rfl, rfl, rfl, rfl⟩
end Go.Proofs.Ytocehonfnpjcjaa.s11
