/- Calls of a window. -/
import Derived.Test.YtgjhlmelbgikdaaSz9
import Derived.Test.YtgjhlmelbgikdaaRows
import Derived.Test.YtgjhlmelbgikdaaLwin
set_option linter.unusedSimpArgs false
set_option linter.unusedVariables false
namespace Go.Proofs.Ytgjhlmelbgikdaa.wn
open Go Go.Ev Go.Sy Go.RowKit
def inside (n lo hi : Int) : Int := lo + n % (hi - lo + 1)
def cW : FuncId → List Value → List Row → Option (Prop × Value × List Row)
  | 16, [.int .i64 n], [] => some (True, .bool (fitsB n), [])
  | 13, [.int .i64 n], [] => some (True, .tuple #[winV (newL n), .int .i64 (newE n)], [])
  | 11, [.agg ⟨[.int .i64 w]⟩, .int .i64 n], [] => some (WinIn w, .tuple #[winV (crL w n), .bool (crB w n)], [])
  | 10, [.agg ⟨[.int .i64 w]⟩, .int .i64 n], [] => some (WinIn w, .tuple #[winV (tkL w n), .bool (tkB w n)], [])
  | 12, [.agg ⟨[.int .i64 w]⟩, .int .i64 o, .int .i64 n], [] => some (WinIn w, .tuple #[winV (shL w o n), .bool (shB w o n)], [])
  | 3, [], [] => some (True, .bool true, [])
  | _, _, _ => none
def kW (f : FuncId) : Bool := Nat.beq f 16 || Nat.beq f 13 || Nat.beq f 11 || Nat.beq f 10 || Nat.beq f 12 || Nat.beq f 3
noncomputable abbrev EW : Env := envC Try.prog cW kW
/-- A call: its kind, two numbers. -/
structure Ask where
  k : Int
  n : Int
  m : Int
def aC (a : Ask) : List Value := [.int .i64 a.k, .int .i64 a.n, .int .i64 a.m]
def aCells (l : List Ask) : List Value := l.flatMap aC
def aRo (l : List Ask) : Row := ⟨aCells l, true, .cells true⟩
def wRow (n : Int) : Row := ⟨[.int .i64 n], false, .cells false⟩
def pPlay : List Nat := [0, 1, 0, 1, 1, 1, 1]
def slPlay (l : List Ask) (s : Nat × Int) : List (Nat × Value) := [(1, .slice (some ⟨0, 0, none⟩) l.length 3), (5, .pointer (some ⟨1, 0, none⟩)), (7, .int .i64 s.2), (8, .int .i64 (s.1 : Nat))]
def rlPlay (l : List Ask) (s : Nat × Int) : List (Nat × Row) := [(0, aRo l), (1, wRow s.2)]
def wsPlay (l : List Ask) : List (Gate Int) := [⟨.exit 0, WinIn, fun w => [(5, .pointer (some ⟨1, 0, none⟩)), (7, .int .i64 w)], fun w => [(0, aRo l), (1, wRow w)], 2⟩]
def specPlay : Sy.Spec := specOf 1 2 166 (fun g : List Ask × Int => g.1.length ≤ maxLen ∧ WinIn g.2) (fun g => slPlay g.1 (0, g.2)) (fun g => rlPlay g.1 (0, g.2)) (fun g => wsPlay g.1)
def mPlay := mOf [(4, pPlay, specPlay)]
theorem play_round (l : List Ask) (i : Nat × Int) (Inv : Nat × Int → Prop) (m : Nat × Int → Nat) : mev EW noM 60 4 (0 :: pPlay) false (codeOf Try.prog 4 (0 :: pPlay)) ⟨mkOv (slPlay l i), 166, []⟩ none ⟨mkR (rlPlay l i), 2⟩ (roundK 1 2 166 Inv m (slPlay l) (rlPlay l) (wsPlay l) i) =
  (br (decide ((↑i.1 : Int) < Int.ofNat (List.length l)))
   (br (decide ((↑i.1 : Int) < (100 : Int)))
    (br (decide ((0 : Int) ≤ (↑i.1 : Int) ∧ (↑i.1 : Int) < (↑(List.length l) : Int)))
     ((Eq (α := Option Value) ((aCells l)[(0 : Nat) + Int.toNat (↑i.1 : Int) * (3 : Nat)]?) (some (Value.int IntKind.i64 (cellI (aCells l) ((0 : Nat) + Int.toNat (↑i.1 : Int) * (3 : Nat)))))) ∧
     ((Eq (α := Option Value) ((aCells l)[(0 : Nat) + Int.toNat (↑i.1 : Int) * (3 : Nat) + (1 : Nat)]?) (some (Value.int IntKind.i64 (cellI (aCells l) ((0 : Nat) + Int.toNat (↑i.1 : Int) * (3 : Nat) + (1 : Nat)))))) ∧
     ((Eq (α := Option Value) ((aCells l)[(0 : Nat) + Int.toNat (↑i.1 : Int) * (3 : Nat) + (1 : Nat) + (1 : Nat)]?) (some (Value.int IntKind.i64 (cellI (aCells l) ((0 : Nat) + Int.toNat (↑i.1 : Int) * (3 : Nat) + (1 : Nat) + (1 : Nat)))))) ∧
     (br (cellI (aCells l) ((0 : Nat) + Int.toNat (↑i.1 : Int) * (3 : Nat)) == (1 : Int))
      (((((True ∧ True) ∧ (True ∧ True)) ∧ (True ∧ WinIn i.2))) ∧
      ((((True ∧ True) ∧ (True ∧ True))) ∧
      (br (fitsB (cellI (aCells l) ((0 : Nat) + Int.toNat (↑i.1 : Int) * (3 : Nat) + (1 : Nat))))
       (br (decide (i.2 ≤ IntKind.wrap IntKind.i64 ((2147483647 : Int) - cellI (aCells l) ((0 : Nat) + Int.toNat (↑i.1 : Int) * (3 : Nat) + (1 : Nat)))))
        (br (!crB i.2 (cellI (aCells l) ((0 : Nat) + Int.toNat (↑i.1 : Int) * (3 : Nat) + (1 : Nat))) == true)
         False
         (br (crL i.2 (cellI (aCells l) ((0 : Nat) + Int.toNat (↑i.1 : Int) * (3 : Nat) + (1 : Nat))) != IntKind.wrap IntKind.i64 (i.2 + cellI (aCells l) ((0 : Nat) + Int.toNat (↑i.1 : Int) * (3 : Nat) + (1 : Nat))))
          False
          (br (i.2 != i.2)
           False
           (∃ j : Nat × Int, ((Inv j) ∧
           ((m j < m i) ∧
           (((0 : Nat) = (0 : Nat)) ∧
           ((List.length l = List.length l) ∧
           (((0 : Nat) = (0 : Nat)) ∧
           ((j.2 = IntKind.wrap IntKind.i64 (i.2 + cellI (aCells l) ((0 : Nat) + Int.toNat (↑i.1 : Int) * (3 : Nat) + (1 : Nat)))) ∧
           (((↑j.1 : Int) = IntKind.wrap IntKind.i64 ((↑i.1 : Int) + (1 : Int))) ∧
           ((Eq (α := List Value) (aCells l) (aCells l)) ∧
           ((Plain (aCells l)) ∧
           ((j.2 = crL i.2 (cellI (aCells l) ((0 : Nat) + Int.toNat (↑i.1 : Int) * (3 : Nat) + (1 : Nat)))) ∧
           True))))))))))))))
        (br (!crB i.2 (cellI (aCells l) ((0 : Nat) + Int.toNat (↑i.1 : Int) * (3 : Nat) + (1 : Nat))) == false)
         False
         (br (crL i.2 (cellI (aCells l) ((0 : Nat) + Int.toNat (↑i.1 : Int) * (3 : Nat) + (1 : Nat))) != i.2)
          False
          (br (i.2 != i.2)
           False
           (∃ j : Nat × Int, ((Inv j) ∧
           ((m j < m i) ∧
           (((0 : Nat) = (0 : Nat)) ∧
           ((List.length l = List.length l) ∧
           (((0 : Nat) = (0 : Nat)) ∧
           ((j.2 = i.2) ∧
           (((↑j.1 : Int) = IntKind.wrap IntKind.i64 ((↑i.1 : Int) + (1 : Int))) ∧
           ((Eq (α := List Value) (aCells l) (aCells l)) ∧
           ((Plain (aCells l)) ∧
           ((j.2 = crL i.2 (cellI (aCells l) ((0 : Nat) + Int.toNat (↑i.1 : Int) * (3 : Nat) + (1 : Nat)))) ∧
           True)))))))))))))))
       (br (!crB i.2 (cellI (aCells l) ((0 : Nat) + Int.toNat (↑i.1 : Int) * (3 : Nat) + (1 : Nat))) == false)
        False
        (br (crL i.2 (cellI (aCells l) ((0 : Nat) + Int.toNat (↑i.1 : Int) * (3 : Nat) + (1 : Nat))) != i.2)
         False
         (br (i.2 != i.2)
          False
          (∃ j : Nat × Int, ((Inv j) ∧
          ((m j < m i) ∧
          (((0 : Nat) = (0 : Nat)) ∧
          ((List.length l = List.length l) ∧
          (((0 : Nat) = (0 : Nat)) ∧
          ((j.2 = i.2) ∧
          (((↑j.1 : Int) = IntKind.wrap IntKind.i64 ((↑i.1 : Int) + (1 : Int))) ∧
          ((Eq (α := List Value) (aCells l) (aCells l)) ∧
          ((Plain (aCells l)) ∧
          ((j.2 = crL i.2 (cellI (aCells l) ((0 : Nat) + Int.toNat (↑i.1 : Int) * (3 : Nat) + (1 : Nat)))) ∧
          True)))))))))))))))))
      (br (cellI (aCells l) ((0 : Nat) + Int.toNat (↑i.1 : Int) * (3 : Nat)) == (2 : Int))
       (((((True ∧ True) ∧ (True ∧ True)) ∧ (True ∧ WinIn i.2))) ∧
       (br (decide (cellI (aCells l) ((0 : Nat) + Int.toNat (↑i.1 : Int) * (3 : Nat) + (1 : Nat)) ≥ (0 : Int)))
        (br (decide (cellI (aCells l) ((0 : Nat) + Int.toNat (↑i.1 : Int) * (3 : Nat) + (1 : Nat)) ≤ i.2))
         (br (!tkB i.2 (cellI (aCells l) ((0 : Nat) + Int.toNat (↑i.1 : Int) * (3 : Nat) + (1 : Nat))) == true)
          False
          (br (tkL i.2 (cellI (aCells l) ((0 : Nat) + Int.toNat (↑i.1 : Int) * (3 : Nat) + (1 : Nat))) != IntKind.wrap IntKind.i64 (i.2 - cellI (aCells l) ((0 : Nat) + Int.toNat (↑i.1 : Int) * (3 : Nat) + (1 : Nat))))
           False
           (br (i.2 != i.2)
            False
            (∃ j : Nat × Int, ((Inv j) ∧
            ((m j < m i) ∧
            (((0 : Nat) = (0 : Nat)) ∧
            ((List.length l = List.length l) ∧
            (((0 : Nat) = (0 : Nat)) ∧
            ((j.2 = IntKind.wrap IntKind.i64 (i.2 - cellI (aCells l) ((0 : Nat) + Int.toNat (↑i.1 : Int) * (3 : Nat) + (1 : Nat)))) ∧
            (((↑j.1 : Int) = IntKind.wrap IntKind.i64 ((↑i.1 : Int) + (1 : Int))) ∧
            ((Eq (α := List Value) (aCells l) (aCells l)) ∧
            ((Plain (aCells l)) ∧
            ((j.2 = tkL i.2 (cellI (aCells l) ((0 : Nat) + Int.toNat (↑i.1 : Int) * (3 : Nat) + (1 : Nat)))) ∧
            True))))))))))))))
         (br (!tkB i.2 (cellI (aCells l) ((0 : Nat) + Int.toNat (↑i.1 : Int) * (3 : Nat) + (1 : Nat))) == false)
          False
          (br (tkL i.2 (cellI (aCells l) ((0 : Nat) + Int.toNat (↑i.1 : Int) * (3 : Nat) + (1 : Nat))) != i.2)
           False
           (br (i.2 != i.2)
            False
            (∃ j : Nat × Int, ((Inv j) ∧
            ((m j < m i) ∧
            (((0 : Nat) = (0 : Nat)) ∧
            ((List.length l = List.length l) ∧
            (((0 : Nat) = (0 : Nat)) ∧
            ((j.2 = i.2) ∧
            (((↑j.1 : Int) = IntKind.wrap IntKind.i64 ((↑i.1 : Int) + (1 : Int))) ∧
            ((Eq (α := List Value) (aCells l) (aCells l)) ∧
            ((Plain (aCells l)) ∧
            ((j.2 = tkL i.2 (cellI (aCells l) ((0 : Nat) + Int.toNat (↑i.1 : Int) * (3 : Nat) + (1 : Nat)))) ∧
            True)))))))))))))))
        (br (!tkB i.2 (cellI (aCells l) ((0 : Nat) + Int.toNat (↑i.1 : Int) * (3 : Nat) + (1 : Nat))) == false)
         False
         (br (tkL i.2 (cellI (aCells l) ((0 : Nat) + Int.toNat (↑i.1 : Int) * (3 : Nat) + (1 : Nat))) != i.2)
          False
          (br (i.2 != i.2)
           False
           (∃ j : Nat × Int, ((Inv j) ∧
           ((m j < m i) ∧
           (((0 : Nat) = (0 : Nat)) ∧
           ((List.length l = List.length l) ∧
           (((0 : Nat) = (0 : Nat)) ∧
           ((j.2 = i.2) ∧
           (((↑j.1 : Int) = IntKind.wrap IntKind.i64 ((↑i.1 : Int) + (1 : Int))) ∧
           ((Eq (α := List Value) (aCells l) (aCells l)) ∧
           ((Plain (aCells l)) ∧
           ((j.2 = tkL i.2 (cellI (aCells l) ((0 : Nat) + Int.toNat (↑i.1 : Int) * (3 : Nat) + (1 : Nat)))) ∧
           True))))))))))))))))
       (br (cellI (aCells l) ((0 : Nat) + Int.toNat (↑i.1 : Int) * (3 : Nat)) == (3 : Int))
        (((((True ∧ True) ∧ (True ∧ (True ∧ True))) ∧ (True ∧ WinIn i.2))) ∧
        ((((True ∧ True) ∧ (True ∧ True))) ∧
        (br (fitsB (cellI (aCells l) ((0 : Nat) + Int.toNat (↑i.1 : Int) * (3 : Nat) + (1 : Nat) + (1 : Nat))))
         ((((True ∧ True) ∧ (True ∧ True))) ∧
         (br (fitsB (cellI (aCells l) ((0 : Nat) + Int.toNat (↑i.1 : Int) * (3 : Nat) + (1 : Nat))))
          (br (decide (IntKind.wrap IntKind.i64 (IntKind.wrap IntKind.i64 (i.2 + cellI (aCells l) ((0 : Nat) + Int.toNat (↑i.1 : Int) * (3 : Nat) + (1 : Nat))) - cellI (aCells l) ((0 : Nat) + Int.toNat (↑i.1 : Int) * (3 : Nat) + (1 : Nat) + (1 : Nat))) ≤ (2147483647 : Int)))
           (br (decide (IntKind.wrap IntKind.i64 (IntKind.wrap IntKind.i64 (i.2 + cellI (aCells l) ((0 : Nat) + Int.toNat (↑i.1 : Int) * (3 : Nat) + (1 : Nat))) - cellI (aCells l) ((0 : Nat) + Int.toNat (↑i.1 : Int) * (3 : Nat) + (1 : Nat) + (1 : Nat))) ≥ (-2147483647 : Int)))
            (br (!shB i.2 (cellI (aCells l) ((0 : Nat) + Int.toNat (↑i.1 : Int) * (3 : Nat) + (1 : Nat) + (1 : Nat))) (cellI (aCells l) ((0 : Nat) + Int.toNat (↑i.1 : Int) * (3 : Nat) + (1 : Nat))) == true)
             False
             (br (shL i.2 (cellI (aCells l) ((0 : Nat) + Int.toNat (↑i.1 : Int) * (3 : Nat) + (1 : Nat) + (1 : Nat))) (cellI (aCells l) ((0 : Nat) + Int.toNat (↑i.1 : Int) * (3 : Nat) + (1 : Nat))) != IntKind.wrap IntKind.i64 (IntKind.wrap IntKind.i64 (i.2 + cellI (aCells l) ((0 : Nat) + Int.toNat (↑i.1 : Int) * (3 : Nat) + (1 : Nat))) - cellI (aCells l) ((0 : Nat) + Int.toNat (↑i.1 : Int) * (3 : Nat) + (1 : Nat) + (1 : Nat))))
              False
              (br (i.2 != i.2)
               False
               (∃ j : Nat × Int, ((Inv j) ∧
               ((m j < m i) ∧
               (((0 : Nat) = (0 : Nat)) ∧
               ((List.length l = List.length l) ∧
               (((0 : Nat) = (0 : Nat)) ∧
               ((j.2 = IntKind.wrap IntKind.i64 (IntKind.wrap IntKind.i64 (i.2 + cellI (aCells l) ((0 : Nat) + Int.toNat (↑i.1 : Int) * (3 : Nat) + (1 : Nat))) - cellI (aCells l) ((0 : Nat) + Int.toNat (↑i.1 : Int) * (3 : Nat) + (1 : Nat) + (1 : Nat)))) ∧
               (((↑j.1 : Int) = IntKind.wrap IntKind.i64 ((↑i.1 : Int) + (1 : Int))) ∧
               ((Eq (α := List Value) (aCells l) (aCells l)) ∧
               ((Plain (aCells l)) ∧
               ((j.2 = shL i.2 (cellI (aCells l) ((0 : Nat) + Int.toNat (↑i.1 : Int) * (3 : Nat) + (1 : Nat) + (1 : Nat))) (cellI (aCells l) ((0 : Nat) + Int.toNat (↑i.1 : Int) * (3 : Nat) + (1 : Nat)))) ∧
               True))))))))))))))
            (br (!shB i.2 (cellI (aCells l) ((0 : Nat) + Int.toNat (↑i.1 : Int) * (3 : Nat) + (1 : Nat) + (1 : Nat))) (cellI (aCells l) ((0 : Nat) + Int.toNat (↑i.1 : Int) * (3 : Nat) + (1 : Nat))) == false)
             False
             (br (shL i.2 (cellI (aCells l) ((0 : Nat) + Int.toNat (↑i.1 : Int) * (3 : Nat) + (1 : Nat) + (1 : Nat))) (cellI (aCells l) ((0 : Nat) + Int.toNat (↑i.1 : Int) * (3 : Nat) + (1 : Nat))) != i.2)
              False
              (br (i.2 != i.2)
               False
               (∃ j : Nat × Int, ((Inv j) ∧
               ((m j < m i) ∧
               (((0 : Nat) = (0 : Nat)) ∧
               ((List.length l = List.length l) ∧
               (((0 : Nat) = (0 : Nat)) ∧
               ((j.2 = i.2) ∧
               (((↑j.1 : Int) = IntKind.wrap IntKind.i64 ((↑i.1 : Int) + (1 : Int))) ∧
               ((Eq (α := List Value) (aCells l) (aCells l)) ∧
               ((Plain (aCells l)) ∧
               ((j.2 = shL i.2 (cellI (aCells l) ((0 : Nat) + Int.toNat (↑i.1 : Int) * (3 : Nat) + (1 : Nat) + (1 : Nat))) (cellI (aCells l) ((0 : Nat) + Int.toNat (↑i.1 : Int) * (3 : Nat) + (1 : Nat)))) ∧
               True)))))))))))))))
           (br (!shB i.2 (cellI (aCells l) ((0 : Nat) + Int.toNat (↑i.1 : Int) * (3 : Nat) + (1 : Nat) + (1 : Nat))) (cellI (aCells l) ((0 : Nat) + Int.toNat (↑i.1 : Int) * (3 : Nat) + (1 : Nat))) == false)
            False
            (br (shL i.2 (cellI (aCells l) ((0 : Nat) + Int.toNat (↑i.1 : Int) * (3 : Nat) + (1 : Nat) + (1 : Nat))) (cellI (aCells l) ((0 : Nat) + Int.toNat (↑i.1 : Int) * (3 : Nat) + (1 : Nat))) != i.2)
             False
             (br (i.2 != i.2)
              False
              (∃ j : Nat × Int, ((Inv j) ∧
              ((m j < m i) ∧
              (((0 : Nat) = (0 : Nat)) ∧
              ((List.length l = List.length l) ∧
              (((0 : Nat) = (0 : Nat)) ∧
              ((j.2 = i.2) ∧
              (((↑j.1 : Int) = IntKind.wrap IntKind.i64 ((↑i.1 : Int) + (1 : Int))) ∧
              ((Eq (α := List Value) (aCells l) (aCells l)) ∧
              ((Plain (aCells l)) ∧
              ((j.2 = shL i.2 (cellI (aCells l) ((0 : Nat) + Int.toNat (↑i.1 : Int) * (3 : Nat) + (1 : Nat) + (1 : Nat))) (cellI (aCells l) ((0 : Nat) + Int.toNat (↑i.1 : Int) * (3 : Nat) + (1 : Nat)))) ∧
              True)))))))))))))))
          (br (!shB i.2 (cellI (aCells l) ((0 : Nat) + Int.toNat (↑i.1 : Int) * (3 : Nat) + (1 : Nat) + (1 : Nat))) (cellI (aCells l) ((0 : Nat) + Int.toNat (↑i.1 : Int) * (3 : Nat) + (1 : Nat))) == false)
           False
           (br (shL i.2 (cellI (aCells l) ((0 : Nat) + Int.toNat (↑i.1 : Int) * (3 : Nat) + (1 : Nat) + (1 : Nat))) (cellI (aCells l) ((0 : Nat) + Int.toNat (↑i.1 : Int) * (3 : Nat) + (1 : Nat))) != i.2)
            False
            (br (i.2 != i.2)
             False
             (∃ j : Nat × Int, ((Inv j) ∧
             ((m j < m i) ∧
             (((0 : Nat) = (0 : Nat)) ∧
             ((List.length l = List.length l) ∧
             (((0 : Nat) = (0 : Nat)) ∧
             ((j.2 = i.2) ∧
             (((↑j.1 : Int) = IntKind.wrap IntKind.i64 ((↑i.1 : Int) + (1 : Int))) ∧
             ((Eq (α := List Value) (aCells l) (aCells l)) ∧
             ((Plain (aCells l)) ∧
             ((j.2 = shL i.2 (cellI (aCells l) ((0 : Nat) + Int.toNat (↑i.1 : Int) * (3 : Nat) + (1 : Nat) + (1 : Nat))) (cellI (aCells l) ((0 : Nat) + Int.toNat (↑i.1 : Int) * (3 : Nat) + (1 : Nat)))) ∧
             True))))))))))))))))
         (br (!shB i.2 (cellI (aCells l) ((0 : Nat) + Int.toNat (↑i.1 : Int) * (3 : Nat) + (1 : Nat) + (1 : Nat))) (cellI (aCells l) ((0 : Nat) + Int.toNat (↑i.1 : Int) * (3 : Nat) + (1 : Nat))) == false)
          False
          (br (shL i.2 (cellI (aCells l) ((0 : Nat) + Int.toNat (↑i.1 : Int) * (3 : Nat) + (1 : Nat) + (1 : Nat))) (cellI (aCells l) ((0 : Nat) + Int.toNat (↑i.1 : Int) * (3 : Nat) + (1 : Nat))) != i.2)
           False
           (br (i.2 != i.2)
            False
            (∃ j : Nat × Int, ((Inv j) ∧
            ((m j < m i) ∧
            (((0 : Nat) = (0 : Nat)) ∧
            ((List.length l = List.length l) ∧
            (((0 : Nat) = (0 : Nat)) ∧
            ((j.2 = i.2) ∧
            (((↑j.1 : Int) = IntKind.wrap IntKind.i64 ((↑i.1 : Int) + (1 : Int))) ∧
            ((Eq (α := List Value) (aCells l) (aCells l)) ∧
            ((Plain (aCells l)) ∧
            ((j.2 = shL i.2 (cellI (aCells l) ((0 : Nat) + Int.toNat (↑i.1 : Int) * (3 : Nat) + (1 : Nat) + (1 : Nat))) (cellI (aCells l) ((0 : Nat) + Int.toNat (↑i.1 : Int) * (3 : Nat) + (1 : Nat)))) ∧
            True)))))))))))))))))
        (∃ j : Nat × Int, ((Inv j) ∧
        ((m j < m i) ∧
        (((0 : Nat) = (0 : Nat)) ∧
        ((List.length l = List.length l) ∧
        (((0 : Nat) = (0 : Nat)) ∧
        ((j.2 = i.2) ∧
        (((↑j.1 : Int) = IntKind.wrap IntKind.i64 ((↑i.1 : Int) + (1 : Int))) ∧
        ((Eq (α := List Value) (aCells l) (aCells l)) ∧
        ((Plain (aCells l)) ∧
        ((j.2 = i.2) ∧
        True)))))))))))))))))
     False)
    (∃ y : Int, ((WinIn y) ∧
    (((0 : Nat) = (0 : Nat)) ∧
    ((y = i.2) ∧
    ((Eq (α := List Value) (aCells l) (aCells l)) ∧
    ((Plain (aCells l)) ∧
    ((y = i.2) ∧
    True))))))))
   (∃ y : Int, ((WinIn y) ∧
   (((0 : Nat) = (0 : Nat)) ∧
   ((y = i.2) ∧
   ((Eq (α := List Value) (aCells l) (aCells l)) ∧
   ((Plain (aCells l)) ∧
   ((y = i.2) ∧
   True)))))))) := by kernel_rfl
theorem play_vc (n : Int) (l : List Ask) : mcall EW mPlay 60 4 [.int .i64 n, .slice (some ⟨0, 0, none⟩) l.length 3] ⟨mkR (nums 0 [aRo l]), 1⟩ (retIs 1 (.bool true) [aRo l]) =
  ((((True ∧ True) ∧ (True ∧ True))) ∧
  ((((True ∧ True) ∧ (True ∧ True))) ∧
  (br (!fitsB n)
   (br (newE n == (1 : Int))
    (br (newL n == (0 : Int))
     (((True ∧ (True ∧ True))) ∧
     ((true = true) ∧
     ((Eq (α := List Value) (aCells l) (aCells l)) ∧
     ((Plain (aCells l)) ∧
     True))))
     ((true = false) ∧
     ((Eq (α := List Value) (aCells l) (aCells l)) ∧
     ((Plain (aCells l)) ∧
     True))))
    ((true = false) ∧
    ((Eq (α := List Value) (aCells l) (aCells l)) ∧
    ((Plain (aCells l)) ∧
    True))))
   (∃ g : List Ask × Int, ((List.length g.1 ≤ (9223372036854775807 : Nat) ∧ WinIn g.2) ∧
   (((0 : Nat) = (0 : Nat)) ∧
   ((List.length g.1 = List.length l) ∧
   (((0 : Nat) = (0 : Nat)) ∧
   ((g.2 = n) ∧
   (((↑(0 : Nat) : Int) = (0 : Int)) ∧
   ((Eq (α := List Value) (aCells g.1) (aCells l)) ∧
   ((Plain (aCells g.1)) ∧
   ((g.2 = newL n) ∧
   (∀ (y : Int), (((-2147483647 : Int) ≤ y ∧ y ≤ (2147483647 : Int)) →
   (br (y == y)
    (((True ∧ (True ∧ True))) ∧
    ((true = true) ∧
    ((Eq (α := List Value) (aCells l) (aCells g.1)) ∧
    ((Plain (aCells l)) ∧
    True))))
    ((true = false) ∧
    ((Eq (α := List Value) (aCells l) (aCells g.1)) ∧
    ((Plain (aCells l)) ∧
    True))))))))))))))))))) := by kernel_rfl

theorem aC_len (l : List Ask) : (aCells l).length = l.length * 3 := by
  induction l with
  | nil => rfl
  | cons a l ih => unfold aCells at ih ⊢; rw [List.flatMap_cons, List.length_append, ih]; simp [aC]; omega
theorem aC_plain (l : List Ask) : Plain (aCells l) := by
  intro v hv
  obtain ⟨a, _, h⟩ := List.mem_flatMap.1 hv
  simp [aC] at h
  rcases h with rfl | rfl | rfl <;> rfl
theorem aC_get (l : List Ask) (i : Nat) (h : i < l.length) : ∃ a : Ask, l[i]? = some a ∧ (aCells l)[i * 3]? = some (.int .i64 a.k) ∧ (aCells l)[i * 3 + 1]? = some (.int .i64 a.n) ∧ (aCells l)[i * 3 + 1 + 1]? = some (.int .i64 a.m) := by
  induction l generalizing i with
  | nil => simp at h
  | cons a l ih =>
    cases i with
    | zero => exact ⟨a, rfl, rfl, rfl, rfl⟩
    | succ i =>
      obtain ⟨b, h0, h1, h2, h3⟩ := ih i (by simpa using h)
      have e : ∀ q, (aCells (a :: l))[q + 3]? = (aCells l)[q]? := fun q => by
        unfold aCells; rw [List.flatMap_cons]; simp [aC]
      refine ⟨b, by simpa using h0, ?_, ?_, ?_⟩
      · rw [show (i + 1) * 3 = i * 3 + 3 by omega, e, h1]
      · rw [show (i + 1) * 3 + 1 = i * 3 + 1 + 3 by omega, e, h2]
      · rw [show (i + 1) * 3 + 1 + 1 = i * 3 + 1 + 1 + 3 by omega, e, h3]
theorem cellI_of {l : List Value} {i : Nat} {k : IntKind} {n : Int} (h : l[i]? = some (.int k n)) : cellI l i = n := by unfold cellI; rw [h]
theorem cW_ok : ∀ f a rows p v news, cW f a rows = some (p, v, news) → p → Con Try.prog f a rows v (rows ++ news) := by
  intro f a rows p v news h hp
  unfold cW at h
  split at h <;> simp only [Option.some.injEq, Prod.mk.injEq, reduceCtorEq] at h <;> obtain ⟨rfl, rfl, rfl⟩ := h
  · exact fits_con _
  · exact new_con _
  · exact credit_con _ _ hp
  · exact take_con _ _ hp
  · exact shift_con _ _ _ hp
  · exact con_run mixed (n := 1000000) (by kernel_rfl) (by kernel_rfl)
def invPlay (l : List Ask) (s : Nat × Int) : Prop := s.1 ≤ l.length ∧ WinIn s.2
def msPlay (l : List Ask) (s : Nat × Int) : Nat := l.length - s.1
theorem crL_in (w n : Int) (h : WinIn w) : WinIn (crL w n) := by
  unfold crL crB WinIn at *
  split
  · rename_i h'; have := of_decide_eq_true h'; omega
  · exact h
theorem tkL_in (w n : Int) (h : WinIn w) : WinIn (tkL w n) := by
  unfold tkL tkB WinIn at *
  split
  · rename_i h'; have := of_decide_eq_true h'; omega
  · exact h
theorem shL_in (w o n : Int) (h : WinIn w) : WinIn (shL w o n) := by
  unfold shL shB WinIn at *
  split
  · rename_i h'; have := of_decide_eq_true h'; omega
  · exact h
theorem br_t {p q : Prop} : br true p q = p := rfl
theorem br_f {p q : Prop} : br false p q = q := rfl
theorem nbeq (n : Nat) : Nat.beq n n = true := Nat.beq_refl n
theorem play_piece : PieceOk EW 1 (4, pPlay, specPlay) := by
  refine piece_loop mixed (calls_envC cW_ok) (lok_envC _ _ _) lm_none (n := 60) (by kernel_rfl) (fun g : List Ask × Int => ((0, g.2) : Nat × Int)) (fun g => invPlay g.1) (fun g => msPlay g.1) (sl := fun g => slPlay g.1) (rl := fun g => rlPlay g.1) (fun g hg => ⟨Nat.zero_le _, hg.2⟩) (fun g s hg hi => ?_)
  obtain ⟨l, w0⟩ := g
  refine (play_round l s _ _).mpr ?_
  obtain ⟨i, w⟩ := s
  obtain ⟨h1, hw⟩ := hi
  have hm : maxLen = 9223372036854775807 := by unfold maxLen; rfl
  have hl := hg.1
  simp only at h1 hw hl
  have hw' := hw
  unfold WinIn at hw'
  simp only [ofNat_eq, toNat_cast, Nat.zero_add, Nat.add_zero, Nat.mul_one, List.drop_zero, bCells_len, bCells_drop, bCells_take, bCells_app, bCells_one, bCells_plain, List.length_replicate, List.length_append, List.length_take, List.length_drop, List.take_length, and_true, true_and, and_self, decide_true, List.length_nil, List.length_cons, Nat.sub_zero, dB_mk, dB_ro, List.take_zero, aC_plain, nbeq, br_t]
  refine br_if (fun h => br_if (fun h' => br_dec (by omega) ?_) (fun _ => ⟨w, hw, rfl⟩)) (fun _ => ⟨w, hw, rfl⟩)
  have hi : i < l.length := by omega
  obtain ⟨a, _, c1, c2, c3⟩ := aC_get l i hi
  have w1 : IntKind.i64.wrap ((i : Int) + 1) = ((i + 1 : Nat) : Int) := by rw [wr64_id (by unfold I64; omega)]; omega
  have leaf : ∀ x, WinIn x → ∃ j : Nat × Int, invPlay l j ∧ msPlay l j < msPlay l (i, w) ∧ j.2 = x ∧ (j.1 : Int) = ((i + 1 : Nat) : Int) ∧ j.2 = x :=
    fun x hx => ⟨(i + 1, x), ⟨by simp only; omega, hx⟩, by unfold msPlay; simp only; omega, rfl, rfl, rfl⟩
  simp only [cellI_of c1, cellI_of c2, cellI_of c3, c1, c2, c3, w1, true_and]
  generalize a.k = k
  generalize a.n = n
  generalize a.m = o
  refine br_intro (fun hk => ⟨hw, ?_⟩) (fun _ => br_intro (fun hk => ⟨hw, ?_⟩) (fun _ => br_intro (fun hk => ⟨hw, ?_⟩) (fun _ => ?_)))
  · cases hf : fitsB n
    · have e : crB w n = false := decide_eq_false (by have := of_decide_eq_false hf; omega)
      have e2 : crL w n = w := by unfold crL; rw [e]; rfl
      rw [br_f, e, e2]
      exact br_nb rfl (br_nb (by simp) (br_nb (by simp) (leaf w hw)))
    · have hf := of_decide_eq_true hf
      rw [br_t, wr64_id (n := 2147483647 - n) (by unfold I64; omega), wr64_id (n := w + n) (by unfold I64; omega)]
      refine br_if (fun h => ?_) (fun h => ?_)
      · have e : crB w n = true := decide_eq_true (by omega)
        have e2 : crL w n = w + n := by unfold crL; rw [e]; rfl
        rw [e, e2]
        exact br_nb rfl (br_nb (by simp) (br_nb (by simp) (leaf _ (by unfold WinIn; omega))))
      · have e : crB w n = false := decide_eq_false (by omega)
        have e2 : crL w n = w := by unfold crL; rw [e]; rfl
        rw [e, e2]
        exact br_nb rfl (br_nb (by simp) (br_nb (by simp) (leaf w hw)))
  · refine br_if (fun h => br_if (fun h' => ?_) (fun h' => ?_)) (fun h => ?_)
    · have e : tkB w n = true := decide_eq_true (by omega)
      have e2 : tkL w n = w - n := by unfold tkL; rw [e]; rfl
      rw [e, e2, wr64_id (n := w - n) (by unfold I64; omega)]
      exact br_nb rfl (br_nb (by simp) (br_nb (by simp) (leaf _ (by unfold WinIn; omega))))
    · have e : tkB w n = false := decide_eq_false (by omega)
      have e2 : tkL w n = w := by unfold tkL; rw [e]; rfl
      rw [e, e2]
      exact br_nb rfl (br_nb (by simp) (br_nb (by simp) (leaf w hw)))
    · have e : tkB w n = false := decide_eq_false (by omega)
      have e2 : tkL w n = w := by unfold tkL; rw [e]; rfl
      rw [e, e2]
      exact br_nb rfl (br_nb (by simp) (br_nb (by simp) (leaf w hw)))
  · have no : shB w o n = false → br (!shB w o n == false) False (br (shL w o n != w) False (br (w != w) False (∃ j : Nat × Int, invPlay l j ∧ msPlay l j < msPlay l (i, w) ∧ j.2 = w ∧ (j.1 : Int) = ((i + 1 : Nat) : Int) ∧ j.2 = shL w o n))) := fun e => by
      have e2 : shL w o n = w := by unfold shL; rw [e]; rfl
      rw [e, e2]
      exact br_nb rfl (br_nb (by simp) (br_nb (by simp) (leaf w hw)))
    cases hf : fitsB o
    · exact no (decide_eq_false (by have := of_decide_eq_false hf; omega))
    have hf := of_decide_eq_true hf
    cases hg : fitsB n
    · exact no (decide_eq_false (by have := of_decide_eq_false hg; omega))
    have hg := of_decide_eq_true hg
    rw [br_t, br_t, wr64_id (n := w + n) (by unfold I64; omega), wr64_id (n := w + n - o) (by unfold I64; omega)]
    refine br_if (fun h => br_if (fun h' => ?_) (fun h' => ?_)) (fun h => ?_)
    · have e : shB w o n = true := decide_eq_true (by omega)
      have e2 : shL w o n = w + n - o := by unfold shL; rw [e]; rfl
      rw [e, e2]
      exact br_nb rfl (br_nb (by simp) (br_nb (by simp) (leaf _ (by unfold WinIn; omega))))
    · exact no (decide_eq_false (by omega))
    · exact no (decide_eq_false (by omega))
  · exact leaf w hw
theorem plays_law (n : Int) (l : List Ask) (_ : I64 n) (hl : l.length ≤ maxLen) (_ : ∀ a ∈ l, True) : Con Try.prog 4 [.int .i64 n, .slice (some ⟨0, 0, none⟩) l.length 3] [aRo l] (.bool true) [aRo l] := by
  refine con_vc (E := EW) mixed (calls_envC cW_ok) (lok_envC _ _ _) (M := mPlay) (lm_one play_piece) (play_vc n l) ?_
  have hm : maxLen = 9223372036854775807 := by unfold maxLen; rfl
  simp only [ofNat_eq, toNat_cast, Nat.zero_add, Nat.add_zero, Nat.mul_one, List.drop_zero, bCells_len, bCells_drop, bCells_take, bCells_app, bCells_one, bCells_plain, List.length_replicate, List.length_append, List.length_take, List.length_drop, List.take_length, and_true, true_and, and_self, decide_true, List.length_nil, List.length_cons, Nat.sub_zero, dB_mk, dB_ro, List.take_zero, aC_plain, nbeq, br_t]
  cases hf : fitsB n
  · have e1 : newE n = 1 := by unfold newE; rw [hf]; rfl
    have e2 : newL n = 0 := by unfold newL; rw [hf]; rfl
    rw [e1, e2]
    exact br_b rfl (br_b rfl (br_b rfl trivial))
  · have e2 : newL n = n := by unfold newL; rw [hf]; rfl
    have hf := of_decide_eq_true hf
    rw [e2]
    refine br_nb rfl ⟨(l, n), ⟨by simp only; omega, by unfold WinIn; simp only; omega⟩, rfl, rfl, rfl, rfl, rfl, fun y _ => br_b (by simp) rfl⟩
theorem elems_ask {n : Nat} {cells : List Value} (h : Elems [.i .i64, .i .i64, .i .i64] n cells) : ∃ l : List Ask, l.length = n ∧ cells = aCells l ∧ ∀ a ∈ l, True := by
  obtain ⟨l, h1, h2, _⟩ := h.data (α := Ask) aC (fun _ => True) (fun c hc => by
    match c, hc with
    | [.int k x, .int k2 y, .int k3 z], hc =>
      obtain ⟨⟨rfl, _⟩, ⟨rfl, _⟩, ⟨rfl, _⟩, _⟩ := hc
      exact ⟨⟨x, y, z⟩, rfl, trivial⟩)
  exact ⟨l, h1, h2, fun _ _ => trivial⟩
end Go.Proofs.Ytgjhlmelbgikdaa.wn
