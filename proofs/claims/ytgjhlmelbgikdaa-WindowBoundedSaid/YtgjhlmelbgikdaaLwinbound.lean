/- What is left is bounded; the least of windows. -/
import Derived.Test.YtgjhlmelbgikdaaSz9
import Derived.Test.YtgjhlmelbgikdaaRows
import Derived.Test.YtgjhlmelbgikdaaLwinplay
set_option linter.unusedSimpArgs false
set_option linter.unusedVariables false
namespace Go.Proofs.Ytgjhlmelbgikdaa.wn
open Go Go.Ev Go.Sy Go.RowKit
def cV : FuncId → List Value → List Row → Option (Prop × Value × List Row)
  | 17, [.int .i64 n, .int .i64 lo, .int .i64 hi], [] => some (0 ≤ lo ∧ lo ≤ hi ∧ hi ≤ 2147483647, .int .i64 (inside n lo hi), [])
  | 11, [.agg ⟨[.int .i64 w]⟩, .int .i64 n], [] => some (WinIn w, .tuple #[winV (crL w n), .bool (crB w n)], [])
  | 10, [.agg ⟨[.int .i64 w]⟩, .int .i64 n], [] => some (WinIn w, .tuple #[winV (tkL w n), .bool (tkB w n)], [])
  | 12, [.agg ⟨[.int .i64 w]⟩, .int .i64 o, .int .i64 n], [] => some (WinIn w, .tuple #[winV (shL w o n), .bool (shB w o n)], [])
  | 13, [.int .i64 n], [] => some (True, .tuple #[winV (newL n), .int .i64 (newE n)], [])
  | 3, [], [] => some (True, .bool true, [])
  | _, _, _ => none
def kV (f : FuncId) : Bool := Nat.beq f 17 || Nat.beq f 13 || Nat.beq f 11 || Nat.beq f 10 || Nat.beq f 12 || Nat.beq f 3
noncomputable abbrev EV : Env := envC Try.prog cV kV
def pBound : List Nat := [0, 1, 0, 1, 1]
def slBound (l : List Ask) (s : Nat × Int) : List (Nat × Value) := [(1, .slice (some ⟨0, 0, none⟩) l.length 3), (5, .pointer (some ⟨1, 0, none⟩)), (6, .int .i64 (s.1 : Nat))]
def wsBound (l : List Ask) : List (Gate Int) := [⟨.exit 0, WinIn, fun _ => [], fun _ => [(0, aRo l)], 1⟩]
def specBound : Sy.Spec := specOf 1 2 95 (fun g : List Ask × Int => g.1.length ≤ maxLen ∧ WinIn g.2) (fun g => slBound g.1 (0, g.2)) (fun g => rlPlay g.1 (0, g.2)) (fun g => wsBound g.1)
def mBound := mOf [(5, pBound, specBound)]
theorem within_vc (n lo hi x : Int) : mcall E0 noM 60 17 [.int .i64 n, .int .i64 lo, .int .i64 hi] ⟨mkR (nums 0 []), 0⟩ (retIs 0 (.int .i64 x) []) =
  (br (IntKind.wrap IntKind.i64 (IntKind.wrap IntKind.i64 (hi - lo) + (1 : Int)) != (0 : Int))
   (br (decide (Int.tmod n (IntKind.wrap IntKind.i64 (IntKind.wrap IntKind.i64 (hi - lo) + (1 : Int))) < (0 : Int)))
    ((x = IntKind.wrap IntKind.i64 (lo + IntKind.wrap IntKind.i64 (IntKind.wrap IntKind.i64 (IntKind.wrap IntKind.i64 (Int.tmod n (IntKind.wrap IntKind.i64 (IntKind.wrap IntKind.i64 (hi - lo) + (1 : Int))) + hi) - lo) + (1 : Int)))) ∧
    True)
    ((x = IntKind.wrap IntKind.i64 (lo + Int.tmod n (IntKind.wrap IntKind.i64 (IntKind.wrap IntKind.i64 (hi - lo) + (1 : Int))))) ∧
    True))
   False) := by kernel_rfl
theorem bound_round (l : List Ask) (i : Nat × Int) (Inv : Nat × Int → Prop) (m : Nat × Int → Nat) : mev EV noM 60 5 (0 :: pBound) false (codeOf Try.prog 5 (0 :: pBound)) ⟨mkOv (slBound l i), 95, []⟩ none ⟨mkR (rlPlay l i), 2⟩ (roundK 1 2 95 Inv m (slBound l) (rlPlay l) (wsBound l) i) =
  (br (decide ((↑i.1 : Int) < Int.ofNat (List.length l)))
   (br (decide ((↑i.1 : Int) < (100 : Int)))
    (br (decide ((0 : Int) ≤ (↑i.1 : Int) ∧ (↑i.1 : Int) < (↑(List.length l) : Int)))
     ((Eq (α := Option Value) ((aCells l)[(0 : Nat) + Int.toNat (↑i.1 : Int) * (3 : Nat) + (0 : Nat)]?) (some (Value.int IntKind.i64 (cellI (aCells l) ((0 : Nat) + Int.toNat (↑i.1 : Int) * (3 : Nat) + (0 : Nat)))))) ∧
     (br (cellI (aCells l) ((0 : Nat) + Int.toNat (↑i.1 : Int) * (3 : Nat) + (0 : Nat)) == (1 : Int))
      (br (decide ((0 : Int) ≤ (↑i.1 : Int) ∧ (↑i.1 : Int) < (↑(List.length l) : Int)))
       ((Eq (α := Option Value) ((aCells l)[(0 : Nat) + Int.toNat (↑i.1 : Int) * (3 : Nat) + (1 : Nat)]?) (some (Value.int IntKind.i64 (cellI (aCells l) ((0 : Nat) + Int.toNat (↑i.1 : Int) * (3 : Nat) + (1 : Nat)))))) ∧
       (((((True ∧ True) ∧ (True ∧ True)) ∧ (True ∧ WinIn i.2))) ∧
       ((Value.agg (Array.mk [Value.int IntKind.i64 i.2]) = Value.agg (Array.mk [Value.int IntKind.i64 i.2])) ∧
       ((Eq (α := Option Value) ((aCells l)[(0 : Nat) + Int.toNat (↑i.1 : Int) * (3 : Nat) + (1 : Nat)]?) (some (Value.int IntKind.i64 (cellI (aCells l) ((0 : Nat) + Int.toNat (↑i.1 : Int) * (3 : Nat) + (1 : Nat)))))) ∧
       ((Value.int IntKind.i64 (cellI (aCells l) ((0 : Nat) + Int.toNat (↑i.1 : Int) * (3 : Nat) + (1 : Nat))) = Value.int IntKind.i64 (cellI (aCells l) ((0 : Nat) + Int.toNat (↑i.1 : Int) * (3 : Nat) + (1 : Nat)))) ∧
       (br (!crB i.2 (cellI (aCells l) ((0 : Nat) + Int.toNat (↑i.1 : Int) * (3 : Nat) + (1 : Nat))))
        (br (crL i.2 (cellI (aCells l) ((0 : Nat) + Int.toNat (↑i.1 : Int) * (3 : Nat) + (1 : Nat))) != i.2)
         False
         (br (decide (crL i.2 (cellI (aCells l) ((0 : Nat) + Int.toNat (↑i.1 : Int) * (3 : Nat) + (1 : Nat))) > (2147483647 : Int)))
          False
          (∃ j : Nat × Int, ((Inv j) ∧
          ((m j < m i) ∧
          (((0 : Nat) = (0 : Nat)) ∧
          ((List.length l = List.length l) ∧
          (((0 : Nat) = (0 : Nat)) ∧
          (((↑j.1 : Int) = IntKind.wrap IntKind.i64 ((↑i.1 : Int) + (1 : Int))) ∧
          ((Eq (α := List Value) (aCells l) (aCells l)) ∧
          ((Plain (aCells l)) ∧
          ((j.2 = crL i.2 (cellI (aCells l) ((0 : Nat) + Int.toNat (↑i.1 : Int) * (3 : Nat) + (1 : Nat)))) ∧
          True))))))))))))
        (br (decide (crL i.2 (cellI (aCells l) ((0 : Nat) + Int.toNat (↑i.1 : Int) * (3 : Nat) + (1 : Nat))) > (2147483647 : Int)))
         False
         (∃ j : Nat × Int, ((Inv j) ∧
         ((m j < m i) ∧
         (((0 : Nat) = (0 : Nat)) ∧
         ((List.length l = List.length l) ∧
         (((0 : Nat) = (0 : Nat)) ∧
         (((↑j.1 : Int) = IntKind.wrap IntKind.i64 ((↑i.1 : Int) + (1 : Int))) ∧
         ((Eq (α := List Value) (aCells l) (aCells l)) ∧
         ((Plain (aCells l)) ∧
         ((j.2 = crL i.2 (cellI (aCells l) ((0 : Nat) + Int.toNat (↑i.1 : Int) * (3 : Nat) + (1 : Nat)))) ∧
         True)))))))))))))))))
       False)
      (br (cellI (aCells l) ((0 : Nat) + Int.toNat (↑i.1 : Int) * (3 : Nat) + (0 : Nat)) == (2 : Int))
       (br (decide ((0 : Int) ≤ (↑i.1 : Int) ∧ (↑i.1 : Int) < (↑(List.length l) : Int)))
        ((Eq (α := Option Value) ((aCells l)[(0 : Nat) + Int.toNat (↑i.1 : Int) * (3 : Nat) + (1 : Nat)]?) (some (Value.int IntKind.i64 (cellI (aCells l) ((0 : Nat) + Int.toNat (↑i.1 : Int) * (3 : Nat) + (1 : Nat)))))) ∧
        (((((True ∧ True) ∧ (True ∧ True)) ∧ (True ∧ WinIn i.2))) ∧
        ((Value.agg (Array.mk [Value.int IntKind.i64 i.2]) = Value.agg (Array.mk [Value.int IntKind.i64 i.2])) ∧
        ((Eq (α := Option Value) ((aCells l)[(0 : Nat) + Int.toNat (↑i.1 : Int) * (3 : Nat) + (1 : Nat)]?) (some (Value.int IntKind.i64 (cellI (aCells l) ((0 : Nat) + Int.toNat (↑i.1 : Int) * (3 : Nat) + (1 : Nat)))))) ∧
        ((Value.int IntKind.i64 (cellI (aCells l) ((0 : Nat) + Int.toNat (↑i.1 : Int) * (3 : Nat) + (1 : Nat))) = Value.int IntKind.i64 (cellI (aCells l) ((0 : Nat) + Int.toNat (↑i.1 : Int) * (3 : Nat) + (1 : Nat)))) ∧
        (br (tkB i.2 (cellI (aCells l) ((0 : Nat) + Int.toNat (↑i.1 : Int) * (3 : Nat) + (1 : Nat))))
         (br (decide ((0 : Int) ≤ (↑i.1 : Int) ∧ (↑i.1 : Int) < (↑(List.length l) : Int)))
          ((Eq (α := Option Value) ((aCells l)[(0 : Nat) + Int.toNat (↑i.1 : Int) * (3 : Nat) + (1 : Nat)]?) (some (Value.int IntKind.i64 (cellI (aCells l) ((0 : Nat) + Int.toNat (↑i.1 : Int) * (3 : Nat) + (1 : Nat)))))) ∧
          (br (decide (cellI (aCells l) ((0 : Nat) + Int.toNat (↑i.1 : Int) * (3 : Nat) + (1 : Nat)) > i.2))
           False
           (br (!tkB i.2 (cellI (aCells l) ((0 : Nat) + Int.toNat (↑i.1 : Int) * (3 : Nat) + (1 : Nat))))
            (br (tkL i.2 (cellI (aCells l) ((0 : Nat) + Int.toNat (↑i.1 : Int) * (3 : Nat) + (1 : Nat))) != i.2)
             False
             (br (decide (tkL i.2 (cellI (aCells l) ((0 : Nat) + Int.toNat (↑i.1 : Int) * (3 : Nat) + (1 : Nat))) > (2147483647 : Int)))
              False
              (∃ j : Nat × Int, ((Inv j) ∧
              ((m j < m i) ∧
              (((0 : Nat) = (0 : Nat)) ∧
              ((List.length l = List.length l) ∧
              (((0 : Nat) = (0 : Nat)) ∧
              (((↑j.1 : Int) = IntKind.wrap IntKind.i64 ((↑i.1 : Int) + (1 : Int))) ∧
              ((Eq (α := List Value) (aCells l) (aCells l)) ∧
              ((Plain (aCells l)) ∧
              ((j.2 = tkL i.2 (cellI (aCells l) ((0 : Nat) + Int.toNat (↑i.1 : Int) * (3 : Nat) + (1 : Nat)))) ∧
              True))))))))))))
            (br (decide (tkL i.2 (cellI (aCells l) ((0 : Nat) + Int.toNat (↑i.1 : Int) * (3 : Nat) + (1 : Nat))) > (2147483647 : Int)))
             False
             (∃ j : Nat × Int, ((Inv j) ∧
             ((m j < m i) ∧
             (((0 : Nat) = (0 : Nat)) ∧
             ((List.length l = List.length l) ∧
             (((0 : Nat) = (0 : Nat)) ∧
             (((↑j.1 : Int) = IntKind.wrap IntKind.i64 ((↑i.1 : Int) + (1 : Int))) ∧
             ((Eq (α := List Value) (aCells l) (aCells l)) ∧
             ((Plain (aCells l)) ∧
             ((j.2 = tkL i.2 (cellI (aCells l) ((0 : Nat) + Int.toNat (↑i.1 : Int) * (3 : Nat) + (1 : Nat)))) ∧
             True))))))))))))))
          False)
         (br (!tkB i.2 (cellI (aCells l) ((0 : Nat) + Int.toNat (↑i.1 : Int) * (3 : Nat) + (1 : Nat))))
          (br (tkL i.2 (cellI (aCells l) ((0 : Nat) + Int.toNat (↑i.1 : Int) * (3 : Nat) + (1 : Nat))) != i.2)
           False
           (br (decide (tkL i.2 (cellI (aCells l) ((0 : Nat) + Int.toNat (↑i.1 : Int) * (3 : Nat) + (1 : Nat))) > (2147483647 : Int)))
            False
            (∃ j : Nat × Int, ((Inv j) ∧
            ((m j < m i) ∧
            (((0 : Nat) = (0 : Nat)) ∧
            ((List.length l = List.length l) ∧
            (((0 : Nat) = (0 : Nat)) ∧
            (((↑j.1 : Int) = IntKind.wrap IntKind.i64 ((↑i.1 : Int) + (1 : Int))) ∧
            ((Eq (α := List Value) (aCells l) (aCells l)) ∧
            ((Plain (aCells l)) ∧
            ((j.2 = tkL i.2 (cellI (aCells l) ((0 : Nat) + Int.toNat (↑i.1 : Int) * (3 : Nat) + (1 : Nat)))) ∧
            True))))))))))))
          (br (decide (tkL i.2 (cellI (aCells l) ((0 : Nat) + Int.toNat (↑i.1 : Int) * (3 : Nat) + (1 : Nat))) > (2147483647 : Int)))
           False
           (∃ j : Nat × Int, ((Inv j) ∧
           ((m j < m i) ∧
           (((0 : Nat) = (0 : Nat)) ∧
           ((List.length l = List.length l) ∧
           (((0 : Nat) = (0 : Nat)) ∧
           (((↑j.1 : Int) = IntKind.wrap IntKind.i64 ((↑i.1 : Int) + (1 : Int))) ∧
           ((Eq (α := List Value) (aCells l) (aCells l)) ∧
           ((Plain (aCells l)) ∧
           ((j.2 = tkL i.2 (cellI (aCells l) ((0 : Nat) + Int.toNat (↑i.1 : Int) * (3 : Nat) + (1 : Nat)))) ∧
           True))))))))))))))))))
        False)
       (br (decide ((0 : Int) ≤ (↑i.1 : Int) ∧ (↑i.1 : Int) < (↑(List.length l) : Int)))
        ((Eq (α := Option Value) ((aCells l)[(0 : Nat) + Int.toNat (↑i.1 : Int) * (3 : Nat) + (2 : Nat)]?) (some (Value.int IntKind.i64 (cellI (aCells l) ((0 : Nat) + Int.toNat (↑i.1 : Int) * (3 : Nat) + (2 : Nat)))))) ∧
        (br (decide ((0 : Int) ≤ (↑i.1 : Int) ∧ (↑i.1 : Int) < (↑(List.length l) : Int)))
         ((Eq (α := Option Value) ((aCells l)[(0 : Nat) + Int.toNat (↑i.1 : Int) * (3 : Nat) + (1 : Nat)]?) (some (Value.int IntKind.i64 (cellI (aCells l) ((0 : Nat) + Int.toNat (↑i.1 : Int) * (3 : Nat) + (1 : Nat)))))) ∧
         (((((True ∧ True) ∧ (True ∧ (True ∧ True))) ∧ (True ∧ WinIn i.2))) ∧
         ((Value.agg (Array.mk [Value.int IntKind.i64 i.2]) = Value.agg (Array.mk [Value.int IntKind.i64 i.2])) ∧
         ((Eq (α := Option Value) ((aCells l)[(0 : Nat) + Int.toNat (↑i.1 : Int) * (3 : Nat) + (2 : Nat)]?) (some (Value.int IntKind.i64 (cellI (aCells l) ((0 : Nat) + Int.toNat (↑i.1 : Int) * (3 : Nat) + (2 : Nat)))))) ∧
         ((Value.int IntKind.i64 (cellI (aCells l) ((0 : Nat) + Int.toNat (↑i.1 : Int) * (3 : Nat) + (2 : Nat))) = Value.int IntKind.i64 (cellI (aCells l) ((0 : Nat) + Int.toNat (↑i.1 : Int) * (3 : Nat) + (2 : Nat)))) ∧
         ((Eq (α := Option Value) ((aCells l)[(0 : Nat) + Int.toNat (↑i.1 : Int) * (3 : Nat) + (1 : Nat)]?) (some (Value.int IntKind.i64 (cellI (aCells l) ((0 : Nat) + Int.toNat (↑i.1 : Int) * (3 : Nat) + (1 : Nat)))))) ∧
         ((Value.int IntKind.i64 (cellI (aCells l) ((0 : Nat) + Int.toNat (↑i.1 : Int) * (3 : Nat) + (1 : Nat))) = Value.int IntKind.i64 (cellI (aCells l) ((0 : Nat) + Int.toNat (↑i.1 : Int) * (3 : Nat) + (1 : Nat)))) ∧
         (br (!shB i.2 (cellI (aCells l) ((0 : Nat) + Int.toNat (↑i.1 : Int) * (3 : Nat) + (2 : Nat))) (cellI (aCells l) ((0 : Nat) + Int.toNat (↑i.1 : Int) * (3 : Nat) + (1 : Nat))))
          (br (shL i.2 (cellI (aCells l) ((0 : Nat) + Int.toNat (↑i.1 : Int) * (3 : Nat) + (2 : Nat))) (cellI (aCells l) ((0 : Nat) + Int.toNat (↑i.1 : Int) * (3 : Nat) + (1 : Nat))) != i.2)
           False
           (br (decide (shL i.2 (cellI (aCells l) ((0 : Nat) + Int.toNat (↑i.1 : Int) * (3 : Nat) + (2 : Nat))) (cellI (aCells l) ((0 : Nat) + Int.toNat (↑i.1 : Int) * (3 : Nat) + (1 : Nat))) > (2147483647 : Int)))
            False
            (∃ j : Nat × Int, ((Inv j) ∧
            ((m j < m i) ∧
            (((0 : Nat) = (0 : Nat)) ∧
            ((List.length l = List.length l) ∧
            (((0 : Nat) = (0 : Nat)) ∧
            (((↑j.1 : Int) = IntKind.wrap IntKind.i64 ((↑i.1 : Int) + (1 : Int))) ∧
            ((Eq (α := List Value) (aCells l) (aCells l)) ∧
            ((Plain (aCells l)) ∧
            ((j.2 = shL i.2 (cellI (aCells l) ((0 : Nat) + Int.toNat (↑i.1 : Int) * (3 : Nat) + (2 : Nat))) (cellI (aCells l) ((0 : Nat) + Int.toNat (↑i.1 : Int) * (3 : Nat) + (1 : Nat)))) ∧
            True))))))))))))
          (br (decide (shL i.2 (cellI (aCells l) ((0 : Nat) + Int.toNat (↑i.1 : Int) * (3 : Nat) + (2 : Nat))) (cellI (aCells l) ((0 : Nat) + Int.toNat (↑i.1 : Int) * (3 : Nat) + (1 : Nat))) > (2147483647 : Int)))
           False
           (∃ j : Nat × Int, ((Inv j) ∧
           ((m j < m i) ∧
           (((0 : Nat) = (0 : Nat)) ∧
           ((List.length l = List.length l) ∧
           (((0 : Nat) = (0 : Nat)) ∧
           (((↑j.1 : Int) = IntKind.wrap IntKind.i64 ((↑i.1 : Int) + (1 : Int))) ∧
           ((Eq (α := List Value) (aCells l) (aCells l)) ∧
           ((Plain (aCells l)) ∧
           ((j.2 = shL i.2 (cellI (aCells l) ((0 : Nat) + Int.toNat (↑i.1 : Int) * (3 : Nat) + (2 : Nat))) (cellI (aCells l) ((0 : Nat) + Int.toNat (↑i.1 : Int) * (3 : Nat) + (1 : Nat)))) ∧
           True)))))))))))))))))))
         False))
        False))))
     False)
    (∃ y : Int, ((WinIn y) ∧
    ((Eq (α := List Value) (aCells l) (aCells l)) ∧
    ((Plain (aCells l)) ∧
    True)))))
   (∃ y : Int, ((WinIn y) ∧
   ((Eq (α := List Value) (aCells l) (aCells l)) ∧
   ((Plain (aCells l)) ∧
   True))))) := by kernel_rfl
theorem bound_vc (n : Int) (l : List Ask) : mcall EV mBound 60 5 [.int .i64 n, .slice (some ⟨0, 0, none⟩) l.length 3] ⟨mkR (nums 0 [aRo l]), 1⟩ (retIs 1 (.bool true) [aRo l]) =
  ((((True ∧ (True ∧ (True ∧ True))) ∧ (True ∧ ((0 : Int) ≤ (0 : Int) ∧ ((0 : Int) ≤ (2147483647 : Int) ∧ (2147483647 : Int) ≤ (2147483647 : Int)))))) ∧
  ((((True ∧ True) ∧ (True ∧ True))) ∧
  (∃ g : List Ask × Int, ((List.length g.1 ≤ (9223372036854775807 : Nat) ∧ WinIn g.2) ∧
  (((0 : Nat) = (0 : Nat)) ∧
  ((List.length g.1 = List.length l) ∧
  (((0 : Nat) = (0 : Nat)) ∧
  (((↑(0 : Nat) : Int) = (0 : Int)) ∧
  ((Eq (α := List Value) (aCells g.1) (aCells l)) ∧
  ((Plain (aCells g.1)) ∧
  ((g.2 = newL (inside n (0 : Int) (2147483647 : Int))) ∧
  (∀ (y : Int), (((-2147483647 : Int) ≤ y ∧ y ≤ (2147483647 : Int)) →
  (((True ∧ (True ∧ True))) ∧
  ((true = true) ∧
  ((Eq (α := List Value) (aCells l) (aCells g.1)) ∧
  ((Plain (aCells l)) ∧
  True))))))))))))))))) := by kernel_rfl
theorem emod_tmod (n m : Int) (hm : 0 < m) : n % m = if n.tmod m < 0 then n.tmod m + m else n.tmod m := by
  have h1 := Int.tmod_add_mul_tdiv n m
  have h2 := Int.tmod_lt_of_pos n hm
  have h3 := Int.lt_tmod_of_pos n hm
  have e : n % m = n.tmod m % m := by conv => lhs; rw [← h1, Int.add_mul_emod_self_left]
  rw [e]
  split
  · rw [← Int.add_emod_right, Int.emod_eq_of_lt (by omega) (by omega)]
  · rw [Int.emod_eq_of_lt (by omega) (by omega)]
theorem within_con (n lo hi : Int) (h0 : 0 ≤ lo) (h1 : lo ≤ hi) (h2 : hi ≤ 2147483647) : Con Try.prog 17 [.int .i64 n, .int .i64 lo, .int .i64 hi] [] (.int .i64 (inside n lo hi)) [] := by
  refine con_vc (E := E0) mixed (calls_envN _) (lok_envN _) (M := noM) lm_none (within_vc n lo hi _) ?_
  unfold inside
  have e := emod_tmod n (hi - lo + 1) (by omega)
  have b1 := Int.tmod_lt_of_pos n (show 0 < hi - lo + 1 by omega)
  have b2 := Int.lt_tmod_of_pos n (show 0 < hi - lo + 1 by omega)
  rw [wr64_id (n := hi - lo) (by unfold I64; omega), wr64_id (n := hi - lo + 1) (by unfold I64; omega)]
  generalize n.tmod (hi - lo + 1) = r at *
  rw [e]
  refine br_b (by simp; omega) (br_if (fun h => ?_) (fun h => ?_))
  · rw [if_pos h, wr64_id (n := r + hi) (by unfold I64; omega), wr64_id (n := r + hi - lo) (by unfold I64; omega), wr64_id (n := r + hi - lo + 1) (by unfold I64; omega), wr64_id (by unfold I64; omega)]
    exact ⟨by omega, trivial⟩
  · rw [if_neg h, wr64_id (by unfold I64; omega)]
    exact ⟨rfl, trivial⟩
theorem inside_in (n lo hi : Int) (h : lo ≤ hi) : lo ≤ inside n lo hi ∧ inside n lo hi ≤ hi := by
  unfold inside
  have h1 := Int.emod_nonneg n (show hi - lo + 1 ≠ 0 by omega)
  have h2 := Int.emod_lt_of_pos n (show 0 < hi - lo + 1 by omega)
  omega
theorem cV_ok : ∀ f a rows p v news, cV f a rows = some (p, v, news) → p → Con Try.prog f a rows v (rows ++ news) := by
  intro f a rows p v news h hp
  unfold cV at h
  split at h <;> simp only [Option.some.injEq, Prod.mk.injEq, reduceCtorEq] at h <;> obtain ⟨rfl, rfl, rfl⟩ := h
  · exact within_con _ _ _ hp.1 hp.2.1 hp.2.2
  · exact credit_con _ _ hp
  · exact take_con _ _ hp
  · exact shift_con _ _ _ hp
  · exact new_con _
  · exact con_run mixed (n := 1000000) (by kernel_rfl) (by kernel_rfl)
theorem bound_piece : PieceOk EV 1 (5, pBound, specBound) := by
  refine piece_loop mixed (calls_envC cV_ok) (lok_envC _ _ _) lm_none (n := 60) (by kernel_rfl) (fun g : List Ask × Int => ((0, g.2) : Nat × Int)) (fun g => invPlay g.1) (fun g => msPlay g.1) (sl := fun g => slBound g.1) (rl := fun g => rlPlay g.1) (fun g hg => ⟨Nat.zero_le _, hg.2⟩) (fun g s hg hi => ?_)
  obtain ⟨l, w0⟩ := g
  refine (bound_round l s _ _).mpr ?_
  obtain ⟨i, w⟩ := s
  obtain ⟨h1, hw⟩ := hi
  have hm : maxLen = 9223372036854775807 := by unfold maxLen; rfl
  have hl := hg.1
  simp only at h1 hw hl
  simp only [ofNat_eq, toNat_cast, Nat.zero_add, Nat.add_zero, Nat.mul_one, List.drop_zero, bCells_len, bCells_drop, bCells_take, bCells_app, bCells_one, bCells_plain, List.length_replicate, List.length_append, List.length_take, List.length_drop, List.take_length, and_true, true_and, and_self, decide_true, List.length_nil, List.length_cons, Nat.sub_zero, dB_mk, dB_ro, List.take_zero, aC_plain, nbeq, br_t]
  refine br_if (fun h => br_if (fun h' => br_dec (by omega) ?_) (fun _ => ⟨w, hw⟩)) (fun _ => ⟨w, hw⟩)
  have hi : i < l.length := by omega
  obtain ⟨a, _, c1, c2, c3⟩ := aC_get l i hi
  have c3 : (aCells l)[i * 3 + 2]? = some (.int .i64 a.m) := c3
  have w1 : IntKind.i64.wrap ((i : Int) + 1) = ((i + 1 : Nat) : Int) := by rw [wr64_id (by unfold I64; omega)]; omega
  have leaf : ∀ x, WinIn x → ∃ j : Nat × Int, invPlay l j ∧ msPlay l j < msPlay l (i, w) ∧ (j.1 : Int) = ((i + 1 : Nat) : Int) ∧ j.2 = x :=
    fun x hx => ⟨(i + 1, x), ⟨by simp only; omega, hx⟩, by unfold msPlay; simp only; omega, rfl, rfl⟩
  simp only [cellI_of c1, cellI_of c2, cellI_of c3, c1, c2, c3, w1, true_and]
  generalize a.k = k
  generalize a.n = n
  generalize a.m = o
  have i1 := crL_in w n hw
  have i2 := tkL_in w n hw
  have i3 := shL_in w o n hw
  refine br_intro (fun hk => br_dec (by omega) ⟨hw, ?_⟩) (fun _ => br_intro (fun hk => br_dec (by omega) ⟨hw, ?_⟩) (fun hk => br_dec (by omega) (br_dec (by omega) ⟨hw, ?_⟩)))
  · refine br_intro (fun h => ?_) (fun h => br_nd (by have := i1.2; omega) (leaf _ i1))
    have e : crB w n = false := by simpa using h
    have e2 : crL w n = w := by unfold crL; rw [e]; rfl
    exact br_nb (by simp [e2]) (br_nd (by have := i1.2; omega) (leaf _ i1))
  · refine br_intro (fun h => br_dec (by omega) (br_nd (by have := of_decide_eq_true h; omega) (br_nb (by simp [h]) (br_nd (by have := i2.2; omega) (leaf _ i2))))) (fun e => ?_)
    have e2 : tkL w n = w := by unfold tkL; rw [e]; rfl
    exact br_b (by simp [e]) (br_nb (by simp [e2]) (br_nd (by have := i2.2; omega) (leaf _ i2)))
  · refine br_intro (fun h => ?_) (fun h => br_nd (by have := i3.2; omega) (leaf _ i3))
    have e : shB w o n = false := by simpa using h
    have e2 : shL w o n = w := by unfold shL; rw [e]; rfl
    exact br_nb (by simp [e2]) (br_nd (by have := i3.2; omega) (leaf _ i3))
theorem bound_law (n : Int) (l : List Ask) (_ : I64 n) (hl : l.length ≤ maxLen) (_ : ∀ a ∈ l, True) : Con Try.prog 5 [.int .i64 n, .slice (some ⟨0, 0, none⟩) l.length 3] [aRo l] (.bool true) [aRo l] := by
  refine con_vc (E := EV) mixed (calls_envC cV_ok) (lok_envC _ _ _) (M := mBound) (lm_one bound_piece) (bound_vc n l) ?_
  have hm : maxLen = 9223372036854775807 := by unfold maxLen; rfl
  have hk := inside_in n 0 2147483647 (by omega)
  generalize inside n 0 2147483647 = k at *
  have e2 : newL k = k := by unfold newL fitsB; rw [decide_eq_true hk]; rfl
  simp only [ofNat_eq, toNat_cast, Nat.zero_add, Nat.add_zero, Nat.mul_one, List.drop_zero, bCells_len, bCells_drop, bCells_take, bCells_app, bCells_one, bCells_plain, List.length_replicate, List.length_append, List.length_take, List.length_drop, List.take_length, and_true, true_and, and_self, decide_true, List.length_nil, List.length_cons, Nat.sub_zero, dB_mk, dB_ro, List.take_zero, aC_plain, nbeq, br_t, e2]
  exact ⟨by omega, (l, k), ⟨by simp only; omega, by unfold WinIn; simp only; omega⟩, rfl, rfl, rfl, rfl, fun y _ => rfl⟩
end Go.Proofs.Ytgjhlmelbgikdaa.wn
