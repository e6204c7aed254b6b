/- The law of settings in parts. -/
import Derived.Test.YtocehonfnpjcjaaSz9
import Derived.Test.YtocehonfnpjcjaaRows
import Derived.Test.YtocehonfnpjcjaaLs11app
set_option linter.unusedSimpArgs false
set_option linter.unusedVariables false
namespace Go.Proofs.Ytocehonfnpjcjaa.s11
open Go Go.Ev Go.Sy Go.RowKit
def decS : List Value → List Se
  | .int _ i :: .int _ v :: r => ⟨i, v⟩ :: decS r
  | _ => []
def dSe (r : Row) : List Se := decS r.cells
def IsSe (r : Row) (n : Nat) : Prop := ∃ l, r = seRo l ∧ n = l.length
noncomputable def appI (a b c d e : Int) (r : Row) : St := appSt ⟨a, b, c, d, e⟩ (dSe r)
noncomputable def errI (r : Row) : Int := errL (dSe r)
noncomputable def cP : FuncId → List Value → List Row → Option (Prop × Value × List Row)
  | 9, [.agg ⟨[.int .i64 a, .int .i64 b, .int .i64 c, .int .i64 d, .int .i64 e]⟩, .slice (some ⟨0, 0, none⟩) n 2], [r0] => some (IsSe r0 n ∧ n ≤ maxLen, .tuple #[stV (appI a b c d e r0), .int .i64 (errI r0)], [])
  | 3, [], [] => some (True, .bool true, [])
  | _, _, _ => none
def kP (f : FuncId) : Bool := Nat.beq f 9 || Nat.beq f 3
noncomputable abbrev EP : Env := envC Try.prog cP kP
theorem parts_vc (x : St) (a b : List Se) : mcall EP noM 60 5 [stV x, .slice (some ⟨0, 0, none⟩) a.length 2, .slice (some ⟨1, 0, none⟩) b.length 2] ⟨mkR (nums 0 [seRo a, seRo b]), 2⟩ (retIs 2 (.bool true) [seRo a, seRo b]) =
  (br (decide (Int.ofNat (List.length a) > (30 : Int)))
   (((True ∧ (True ∧ True))) ∧
   ((true = true) ∧
   ((Eq (α := List Value) (seCells a) (seCells a)) ∧
   ((Plain (seCells a)) ∧
   ((Eq (α := List Value) (seCells b) (seCells b)) ∧
   ((Plain (seCells b)) ∧
   True))))))
   (br (decide (Int.ofNat (List.length b) > (30 : Int)))
    (((True ∧ (True ∧ True))) ∧
    ((true = true) ∧
    ((Eq (α := List Value) (seCells a) (seCells a)) ∧
    ((Plain (seCells a)) ∧
    ((Eq (α := List Value) (seCells b) (seCells b)) ∧
    ((Plain (seCells b)) ∧
    True))))))
    (((((True ∧ (True ∧ (True ∧ (True ∧ (True ∧ True))))) ∧ (((0 : Nat) + List.length a * (2 : Nat) ≤ List.length (seCells a) ∧ Plain (List.take (List.length a * (2 : Nat)) (List.drop (0 : Nat) (seCells a)))) ∧ True)) ∧ (True ∧ (IsSe (Row.mk (List.take (List.length a * (2 : Nat)) (List.drop (0 : Nat) (seCells a))) true (Ob.cells true)) (List.length a) ∧ List.length a ≤ (9223372036854775807 : Nat))))) ∧
    (((((True ∧ (True ∧ (True ∧ (True ∧ (True ∧ True))))) ∧ (((0 : Nat) + List.length b * (2 : Nat) ≤ List.length (seCells b) ∧ Plain (List.take (List.length b * (2 : Nat)) (List.drop (0 : Nat) (seCells b)))) ∧ True)) ∧ (True ∧ (IsSe (Row.mk (List.take (List.length b * (2 : Nat)) (List.drop (0 : Nat) (seCells b))) true (Ob.cells true)) (List.length b) ∧ List.length b ≤ (9223372036854775807 : Nat))))) ∧
    (br (decide ((0 : Nat) + List.length a * (2 : Nat) ≤ List.length (seCells a)))
     (br (allOne (List.take (List.length a * (2 : Nat)) (List.drop (0 : Nat) (seCells a))))
      (br (decide ((0 : Nat) + List.length a ≤ (16777216 : Nat)))
       (br (decide ((0 : Nat) < (0 : Nat) + List.length a ∨ List.length (List.flatten (List.replicate (0 : Nat) (Array.toList (Value.cells (Value.agg #[Value.int IntKind.i64 (0 : Int), Value.int IntKind.i64 (0 : Int)]))))) = (0 : Nat)))
        (br (decide ((0 : Nat) + List.length b * (2 : Nat) ≤ List.length (seCells b)))
         (br (allOne (List.take (List.length b * (2 : Nat)) (List.drop (0 : Nat) (seCells b))))
          (br (decide ((0 : Nat) + List.length a + List.length b ≤ (16777216 : Nat)))
           (br (decide ((0 : Nat) < (0 : Nat) + List.length a + List.length b ∨ List.length ([] ++ List.take (List.length a * (2 : Nat)) (List.drop (0 : Nat) (seCells a))) = (0 : Nat)))
            (br (decide ((0 : Nat) + ((0 : Nat) + List.length a) * (2 : Nat) ≤ List.length ([] ++ List.take (List.length a * (2 : Nat)) (List.drop (0 : Nat) (seCells a)))))
             (((((True ∧ (True ∧ (True ∧ (True ∧ (True ∧ True))))) ∧ (((0 : Nat) + ((0 : Nat) + List.length a + List.length b) * (2 : Nat) ≤ List.length (List.take (((0 : Nat) + List.length a) * (2 : Nat)) (List.drop (0 : Nat) ([] ++ List.take (List.length a * (2 : Nat)) (List.drop (0 : Nat) (seCells a)))) ++ List.take (List.length b * (2 : Nat)) (List.drop (0 : Nat) (seCells b))) ∧ Plain (List.take (((0 : Nat) + List.length a + List.length b) * (2 : Nat)) (List.drop (0 : Nat) (List.take (((0 : Nat) + List.length a) * (2 : Nat)) (List.drop (0 : Nat) ([] ++ List.take (List.length a * (2 : Nat)) (List.drop (0 : Nat) (seCells a)))) ++ List.take (List.length b * (2 : Nat)) (List.drop (0 : Nat) (seCells b)))))) ∧ True)) ∧ (True ∧ (IsSe (Row.mk (List.take (((0 : Nat) + List.length a + List.length b) * (2 : Nat)) (List.drop (0 : Nat) (List.take (((0 : Nat) + List.length a) * (2 : Nat)) (List.drop (0 : Nat) ([] ++ List.take (List.length a * (2 : Nat)) (List.drop (0 : Nat) (seCells a)))) ++ List.take (List.length b * (2 : Nat)) (List.drop (0 : Nat) (seCells b))))) true (Ob.cells true)) ((0 : Nat) + List.length a + List.length b) ∧ (0 : Nat) + List.length a + List.length b ≤ (9223372036854775807 : Nat))))) ∧
             ((Value.agg (Array.mk [Value.int IntKind.i64 x.1, Value.int IntKind.i64 x.2, Value.int IntKind.i64 x.3, Value.int IntKind.i64 x.4, Value.int IntKind.i64 x.5]) = Value.agg (Array.mk [Value.int IntKind.i64 x.1, Value.int IntKind.i64 x.2, Value.int IntKind.i64 x.3, Value.int IntKind.i64 x.4, Value.int IntKind.i64 x.5])) ∧
             ((Value.agg (Array.mk [Value.int IntKind.i64 x.1, Value.int IntKind.i64 x.2, Value.int IntKind.i64 x.3, Value.int IntKind.i64 x.4, Value.int IntKind.i64 x.5]) = Value.agg (Array.mk [Value.int IntKind.i64 x.1, Value.int IntKind.i64 x.2, Value.int IntKind.i64 x.3, Value.int IntKind.i64 x.4, Value.int IntKind.i64 x.5])) ∧
             ((Value.agg (Array.mk [Value.int IntKind.i64 x.1, Value.int IntKind.i64 x.2, Value.int IntKind.i64 x.3, Value.int IntKind.i64 x.4, Value.int IntKind.i64 x.5]) = Value.agg (Array.mk [Value.int IntKind.i64 x.1, Value.int IntKind.i64 x.2, Value.int IntKind.i64 x.3, Value.int IntKind.i64 x.4, Value.int IntKind.i64 x.5])) ∧
             (br (errI (Row.mk (List.take (List.length a * (2 : Nat)) (List.drop (0 : Nat) (seCells a))) true (Ob.cells true)) != (0 : Int))
              (br ((appI x.1 x.2 x.3 x.4 x.5 (Row.mk (List.take (List.length a * (2 : Nat)) (List.drop (0 : Nat) (seCells a))) true (Ob.cells true))).1 == x.1 && ((appI x.1 x.2 x.3 x.4 x.5 (Row.mk (List.take (List.length a * (2 : Nat)) (List.drop (0 : Nat) (seCells a))) true (Ob.cells true))).2 == x.2 && ((appI x.1 x.2 x.3 x.4 x.5 (Row.mk (List.take (List.length a * (2 : Nat)) (List.drop (0 : Nat) (seCells a))) true (Ob.cells true))).3 == x.3 && ((appI x.1 x.2 x.3 x.4 x.5 (Row.mk (List.take (List.length a * (2 : Nat)) (List.drop (0 : Nat) (seCells a))) true (Ob.cells true))).4 == x.4 && ((appI x.1 x.2 x.3 x.4 x.5 (Row.mk (List.take (List.length a * (2 : Nat)) (List.drop (0 : Nat) (seCells a))) true (Ob.cells true))).5 == x.5 && true)))))
               (br ((appI x.1 x.2 x.3 x.4 x.5 (Row.mk (List.take (((0 : Nat) + List.length a + List.length b) * (2 : Nat)) (List.drop (0 : Nat) (List.take (((0 : Nat) + List.length a) * (2 : Nat)) (List.drop (0 : Nat) ([] ++ List.take (List.length a * (2 : Nat)) (List.drop (0 : Nat) (seCells a)))) ++ List.take (List.length b * (2 : Nat)) (List.drop (0 : Nat) (seCells b))))) true (Ob.cells true))).1 == x.1 && ((appI x.1 x.2 x.3 x.4 x.5 (Row.mk (List.take (((0 : Nat) + List.length a + List.length b) * (2 : Nat)) (List.drop (0 : Nat) (List.take (((0 : Nat) + List.length a) * (2 : Nat)) (List.drop (0 : Nat) ([] ++ List.take (List.length a * (2 : Nat)) (List.drop (0 : Nat) (seCells a)))) ++ List.take (List.length b * (2 : Nat)) (List.drop (0 : Nat) (seCells b))))) true (Ob.cells true))).2 == x.2 && ((appI x.1 x.2 x.3 x.4 x.5 (Row.mk (List.take (((0 : Nat) + List.length a + List.length b) * (2 : Nat)) (List.drop (0 : Nat) (List.take (((0 : Nat) + List.length a) * (2 : Nat)) (List.drop (0 : Nat) ([] ++ List.take (List.length a * (2 : Nat)) (List.drop (0 : Nat) (seCells a)))) ++ List.take (List.length b * (2 : Nat)) (List.drop (0 : Nat) (seCells b))))) true (Ob.cells true))).3 == x.3 && ((appI x.1 x.2 x.3 x.4 x.5 (Row.mk (List.take (((0 : Nat) + List.length a + List.length b) * (2 : Nat)) (List.drop (0 : Nat) (List.take (((0 : Nat) + List.length a) * (2 : Nat)) (List.drop (0 : Nat) ([] ++ List.take (List.length a * (2 : Nat)) (List.drop (0 : Nat) (seCells a)))) ++ List.take (List.length b * (2 : Nat)) (List.drop (0 : Nat) (seCells b))))) true (Ob.cells true))).4 == x.4 && ((appI x.1 x.2 x.3 x.4 x.5 (Row.mk (List.take (((0 : Nat) + List.length a + List.length b) * (2 : Nat)) (List.drop (0 : Nat) (List.take (((0 : Nat) + List.length a) * (2 : Nat)) (List.drop (0 : Nat) ([] ++ List.take (List.length a * (2 : Nat)) (List.drop (0 : Nat) (seCells a)))) ++ List.take (List.length b * (2 : Nat)) (List.drop (0 : Nat) (seCells b))))) true (Ob.cells true))).5 == x.5 && true)))))
                (br (errI (Row.mk (List.take (((0 : Nat) + List.length a + List.length b) * (2 : Nat)) (List.drop (0 : Nat) (List.take (((0 : Nat) + List.length a) * (2 : Nat)) (List.drop (0 : Nat) ([] ++ List.take (List.length a * (2 : Nat)) (List.drop (0 : Nat) (seCells a)))) ++ List.take (List.length b * (2 : Nat)) (List.drop (0 : Nat) (seCells b))))) true (Ob.cells true)) == errI (Row.mk (List.take (List.length a * (2 : Nat)) (List.drop (0 : Nat) (seCells a))) true (Ob.cells true)))
                 (((True ∧ (True ∧ True))) ∧
                 ((true = true) ∧
                 ((Eq (α := List Value) (seCells a) (seCells a)) ∧
                 ((Plain (seCells a)) ∧
                 ((Eq (α := List Value) (seCells b) (seCells b)) ∧
                 ((Plain (seCells b)) ∧
                 True))))))
                 ((true = false) ∧
                 ((Eq (α := List Value) (seCells a) (seCells a)) ∧
                 ((Plain (seCells a)) ∧
                 ((Eq (α := List Value) (seCells b) (seCells b)) ∧
                 ((Plain (seCells b)) ∧
                 True))))))
                ((true = false) ∧
                ((Eq (α := List Value) (seCells a) (seCells a)) ∧
                ((Plain (seCells a)) ∧
                ((Eq (α := List Value) (seCells b) (seCells b)) ∧
                ((Plain (seCells b)) ∧
                True))))))
               ((true = false) ∧
               ((Eq (α := List Value) (seCells a) (seCells a)) ∧
               ((Plain (seCells a)) ∧
               ((Eq (α := List Value) (seCells b) (seCells b)) ∧
               ((Plain (seCells b)) ∧
               True))))))
              (br (errI (Row.mk (List.take (List.length b * (2 : Nat)) (List.drop (0 : Nat) (seCells b))) true (Ob.cells true)) != (0 : Int))
               (br ((appI (appI x.1 x.2 x.3 x.4 x.5 (Row.mk (List.take (List.length a * (2 : Nat)) (List.drop (0 : Nat) (seCells a))) true (Ob.cells true))).1 (appI x.1 x.2 x.3 x.4 x.5 (Row.mk (List.take (List.length a * (2 : Nat)) (List.drop (0 : Nat) (seCells a))) true (Ob.cells true))).2 (appI x.1 x.2 x.3 x.4 x.5 (Row.mk (List.take (List.length a * (2 : Nat)) (List.drop (0 : Nat) (seCells a))) true (Ob.cells true))).3 (appI x.1 x.2 x.3 x.4 x.5 (Row.mk (List.take (List.length a * (2 : Nat)) (List.drop (0 : Nat) (seCells a))) true (Ob.cells true))).4 (appI x.1 x.2 x.3 x.4 x.5 (Row.mk (List.take (List.length a * (2 : Nat)) (List.drop (0 : Nat) (seCells a))) true (Ob.cells true))).5 (Row.mk (List.take (List.length b * (2 : Nat)) (List.drop (0 : Nat) (seCells b))) true (Ob.cells true))).1 == (appI x.1 x.2 x.3 x.4 x.5 (Row.mk (List.take (List.length a * (2 : Nat)) (List.drop (0 : Nat) (seCells a))) true (Ob.cells true))).1 && ((appI (appI x.1 x.2 x.3 x.4 x.5 (Row.mk (List.take (List.length a * (2 : Nat)) (List.drop (0 : Nat) (seCells a))) true (Ob.cells true))).1 (appI x.1 x.2 x.3 x.4 x.5 (Row.mk (List.take (List.length a * (2 : Nat)) (List.drop (0 : Nat) (seCells a))) true (Ob.cells true))).2 (appI x.1 x.2 x.3 x.4 x.5 (Row.mk (List.take (List.length a * (2 : Nat)) (List.drop (0 : Nat) (seCells a))) true (Ob.cells true))).3 (appI x.1 x.2 x.3 x.4 x.5 (Row.mk (List.take (List.length a * (2 : Nat)) (List.drop (0 : Nat) (seCells a))) true (Ob.cells true))).4 (appI x.1 x.2 x.3 x.4 x.5 (Row.mk (List.take (List.length a * (2 : Nat)) (List.drop (0 : Nat) (seCells a))) true (Ob.cells true))).5 (Row.mk (List.take (List.length b * (2 : Nat)) (List.drop (0 : Nat) (seCells b))) true (Ob.cells true))).2 == (appI x.1 x.2 x.3 x.4 x.5 (Row.mk (List.take (List.length a * (2 : Nat)) (List.drop (0 : Nat) (seCells a))) true (Ob.cells true))).2 && ((appI (appI x.1 x.2 x.3 x.4 x.5 (Row.mk (List.take (List.length a * (2 : Nat)) (List.drop (0 : Nat) (seCells a))) true (Ob.cells true))).1 (appI x.1 x.2 x.3 x.4 x.5 (Row.mk (List.take (List.length a * (2 : Nat)) (List.drop (0 : Nat) (seCells a))) true (Ob.cells true))).2 (appI x.1 x.2 x.3 x.4 x.5 (Row.mk (List.take (List.length a * (2 : Nat)) (List.drop (0 : Nat) (seCells a))) true (Ob.cells true))).3 (appI x.1 x.2 x.3 x.4 x.5 (Row.mk (List.take (List.length a * (2 : Nat)) (List.drop (0 : Nat) (seCells a))) true (Ob.cells true))).4 (appI x.1 x.2 x.3 x.4 x.5 (Row.mk (List.take (List.length a * (2 : Nat)) (List.drop (0 : Nat) (seCells a))) true (Ob.cells true))).5 (Row.mk (List.take (List.length b * (2 : Nat)) (List.drop (0 : Nat) (seCells b))) true (Ob.cells true))).3 == (appI x.1 x.2 x.3 x.4 x.5 (Row.mk (List.take (List.length a * (2 : Nat)) (List.drop (0 : Nat) (seCells a))) true (Ob.cells true))).3 && ((appI (appI x.1 x.2 x.3 x.4 x.5 (Row.mk (List.take (List.length a * (2 : Nat)) (List.drop (0 : Nat) (seCells a))) true (Ob.cells true))).1 (appI x.1 x.2 x.3 x.4 x.5 (Row.mk (List.take (List.length a * (2 : Nat)) (List.drop (0 : Nat) (seCells a))) true (Ob.cells true))).2 (appI x.1 x.2 x.3 x.4 x.5 (Row.mk (List.take (List.length a * (2 : Nat)) (List.drop (0 : Nat) (seCells a))) true (Ob.cells true))).3 (appI x.1 x.2 x.3 x.4 x.5 (Row.mk (List.take (List.length a * (2 : Nat)) (List.drop (0 : Nat) (seCells a))) true (Ob.cells true))).4 (appI x.1 x.2 x.3 x.4 x.5 (Row.mk (List.take (List.length a * (2 : Nat)) (List.drop (0 : Nat) (seCells a))) true (Ob.cells true))).5 (Row.mk (List.take (List.length b * (2 : Nat)) (List.drop (0 : Nat) (seCells b))) true (Ob.cells true))).4 == (appI x.1 x.2 x.3 x.4 x.5 (Row.mk (List.take (List.length a * (2 : Nat)) (List.drop (0 : Nat) (seCells a))) true (Ob.cells true))).4 && ((appI (appI x.1 x.2 x.3 x.4 x.5 (Row.mk (List.take (List.length a * (2 : Nat)) (List.drop (0 : Nat) (seCells a))) true (Ob.cells true))).1 (appI x.1 x.2 x.3 x.4 x.5 (Row.mk (List.take (List.length a * (2 : Nat)) (List.drop (0 : Nat) (seCells a))) true (Ob.cells true))).2 (appI x.1 x.2 x.3 x.4 x.5 (Row.mk (List.take (List.length a * (2 : Nat)) (List.drop (0 : Nat) (seCells a))) true (Ob.cells true))).3 (appI x.1 x.2 x.3 x.4 x.5 (Row.mk (List.take (List.length a * (2 : Nat)) (List.drop (0 : Nat) (seCells a))) true (Ob.cells true))).4 (appI x.1 x.2 x.3 x.4 x.5 (Row.mk (List.take (List.length a * (2 : Nat)) (List.drop (0 : Nat) (seCells a))) true (Ob.cells true))).5 (Row.mk (List.take (List.length b * (2 : Nat)) (List.drop (0 : Nat) (seCells b))) true (Ob.cells true))).5 == (appI x.1 x.2 x.3 x.4 x.5 (Row.mk (List.take (List.length a * (2 : Nat)) (List.drop (0 : Nat) (seCells a))) true (Ob.cells true))).5 && true)))))
                (br ((appI x.1 x.2 x.3 x.4 x.5 (Row.mk (List.take (((0 : Nat) + List.length a + List.length b) * (2 : Nat)) (List.drop (0 : Nat) (List.take (((0 : Nat) + List.length a) * (2 : Nat)) (List.drop (0 : Nat) ([] ++ List.take (List.length a * (2 : Nat)) (List.drop (0 : Nat) (seCells a)))) ++ List.take (List.length b * (2 : Nat)) (List.drop (0 : Nat) (seCells b))))) true (Ob.cells true))).1 == x.1 && ((appI x.1 x.2 x.3 x.4 x.5 (Row.mk (List.take (((0 : Nat) + List.length a + List.length b) * (2 : Nat)) (List.drop (0 : Nat) (List.take (((0 : Nat) + List.length a) * (2 : Nat)) (List.drop (0 : Nat) ([] ++ List.take (List.length a * (2 : Nat)) (List.drop (0 : Nat) (seCells a)))) ++ List.take (List.length b * (2 : Nat)) (List.drop (0 : Nat) (seCells b))))) true (Ob.cells true))).2 == x.2 && ((appI x.1 x.2 x.3 x.4 x.5 (Row.mk (List.take (((0 : Nat) + List.length a + List.length b) * (2 : Nat)) (List.drop (0 : Nat) (List.take (((0 : Nat) + List.length a) * (2 : Nat)) (List.drop (0 : Nat) ([] ++ List.take (List.length a * (2 : Nat)) (List.drop (0 : Nat) (seCells a)))) ++ List.take (List.length b * (2 : Nat)) (List.drop (0 : Nat) (seCells b))))) true (Ob.cells true))).3 == x.3 && ((appI x.1 x.2 x.3 x.4 x.5 (Row.mk (List.take (((0 : Nat) + List.length a + List.length b) * (2 : Nat)) (List.drop (0 : Nat) (List.take (((0 : Nat) + List.length a) * (2 : Nat)) (List.drop (0 : Nat) ([] ++ List.take (List.length a * (2 : Nat)) (List.drop (0 : Nat) (seCells a)))) ++ List.take (List.length b * (2 : Nat)) (List.drop (0 : Nat) (seCells b))))) true (Ob.cells true))).4 == x.4 && ((appI x.1 x.2 x.3 x.4 x.5 (Row.mk (List.take (((0 : Nat) + List.length a + List.length b) * (2 : Nat)) (List.drop (0 : Nat) (List.take (((0 : Nat) + List.length a) * (2 : Nat)) (List.drop (0 : Nat) ([] ++ List.take (List.length a * (2 : Nat)) (List.drop (0 : Nat) (seCells a)))) ++ List.take (List.length b * (2 : Nat)) (List.drop (0 : Nat) (seCells b))))) true (Ob.cells true))).5 == x.5 && true)))))
                 (br (errI (Row.mk (List.take (((0 : Nat) + List.length a + List.length b) * (2 : Nat)) (List.drop (0 : Nat) (List.take (((0 : Nat) + List.length a) * (2 : Nat)) (List.drop (0 : Nat) ([] ++ List.take (List.length a * (2 : Nat)) (List.drop (0 : Nat) (seCells a)))) ++ List.take (List.length b * (2 : Nat)) (List.drop (0 : Nat) (seCells b))))) true (Ob.cells true)) == errI (Row.mk (List.take (List.length b * (2 : Nat)) (List.drop (0 : Nat) (seCells b))) true (Ob.cells true)))
                  (((True ∧ (True ∧ True))) ∧
                  ((true = true) ∧
                  ((Eq (α := List Value) (seCells a) (seCells a)) ∧
                  ((Plain (seCells a)) ∧
                  ((Eq (α := List Value) (seCells b) (seCells b)) ∧
                  ((Plain (seCells b)) ∧
                  True))))))
                  ((true = false) ∧
                  ((Eq (α := List Value) (seCells a) (seCells a)) ∧
                  ((Plain (seCells a)) ∧
                  ((Eq (α := List Value) (seCells b) (seCells b)) ∧
                  ((Plain (seCells b)) ∧
                  True))))))
                 ((true = false) ∧
                 ((Eq (α := List Value) (seCells a) (seCells a)) ∧
                 ((Plain (seCells a)) ∧
                 ((Eq (α := List Value) (seCells b) (seCells b)) ∧
                 ((Plain (seCells b)) ∧
                 True))))))
                ((true = false) ∧
                ((Eq (α := List Value) (seCells a) (seCells a)) ∧
                ((Plain (seCells a)) ∧
                ((Eq (α := List Value) (seCells b) (seCells b)) ∧
                ((Plain (seCells b)) ∧
                True))))))
               (br ((appI x.1 x.2 x.3 x.4 x.5 (Row.mk (List.take (((0 : Nat) + List.length a + List.length b) * (2 : Nat)) (List.drop (0 : Nat) (List.take (((0 : Nat) + List.length a) * (2 : Nat)) (List.drop (0 : Nat) ([] ++ List.take (List.length a * (2 : Nat)) (List.drop (0 : Nat) (seCells a)))) ++ List.take (List.length b * (2 : Nat)) (List.drop (0 : Nat) (seCells b))))) true (Ob.cells true))).1 == (appI (appI x.1 x.2 x.3 x.4 x.5 (Row.mk (List.take (List.length a * (2 : Nat)) (List.drop (0 : Nat) (seCells a))) true (Ob.cells true))).1 (appI x.1 x.2 x.3 x.4 x.5 (Row.mk (List.take (List.length a * (2 : Nat)) (List.drop (0 : Nat) (seCells a))) true (Ob.cells true))).2 (appI x.1 x.2 x.3 x.4 x.5 (Row.mk (List.take (List.length a * (2 : Nat)) (List.drop (0 : Nat) (seCells a))) true (Ob.cells true))).3 (appI x.1 x.2 x.3 x.4 x.5 (Row.mk (List.take (List.length a * (2 : Nat)) (List.drop (0 : Nat) (seCells a))) true (Ob.cells true))).4 (appI x.1 x.2 x.3 x.4 x.5 (Row.mk (List.take (List.length a * (2 : Nat)) (List.drop (0 : Nat) (seCells a))) true (Ob.cells true))).5 (Row.mk (List.take (List.length b * (2 : Nat)) (List.drop (0 : Nat) (seCells b))) true (Ob.cells true))).1 && ((appI x.1 x.2 x.3 x.4 x.5 (Row.mk (List.take (((0 : Nat) + List.length a + List.length b) * (2 : Nat)) (List.drop (0 : Nat) (List.take (((0 : Nat) + List.length a) * (2 : Nat)) (List.drop (0 : Nat) ([] ++ List.take (List.length a * (2 : Nat)) (List.drop (0 : Nat) (seCells a)))) ++ List.take (List.length b * (2 : Nat)) (List.drop (0 : Nat) (seCells b))))) true (Ob.cells true))).2 == (appI (appI x.1 x.2 x.3 x.4 x.5 (Row.mk (List.take (List.length a * (2 : Nat)) (List.drop (0 : Nat) (seCells a))) true (Ob.cells true))).1 (appI x.1 x.2 x.3 x.4 x.5 (Row.mk (List.take (List.length a * (2 : Nat)) (List.drop (0 : Nat) (seCells a))) true (Ob.cells true))).2 (appI x.1 x.2 x.3 x.4 x.5 (Row.mk (List.take (List.length a * (2 : Nat)) (List.drop (0 : Nat) (seCells a))) true (Ob.cells true))).3 (appI x.1 x.2 x.3 x.4 x.5 (Row.mk (List.take (List.length a * (2 : Nat)) (List.drop (0 : Nat) (seCells a))) true (Ob.cells true))).4 (appI x.1 x.2 x.3 x.4 x.5 (Row.mk (List.take (List.length a * (2 : Nat)) (List.drop (0 : Nat) (seCells a))) true (Ob.cells true))).5 (Row.mk (List.take (List.length b * (2 : Nat)) (List.drop (0 : Nat) (seCells b))) true (Ob.cells true))).2 && ((appI x.1 x.2 x.3 x.4 x.5 (Row.mk (List.take (((0 : Nat) + List.length a + List.length b) * (2 : Nat)) (List.drop (0 : Nat) (List.take (((0 : Nat) + List.length a) * (2 : Nat)) (List.drop (0 : Nat) ([] ++ List.take (List.length a * (2 : Nat)) (List.drop (0 : Nat) (seCells a)))) ++ List.take (List.length b * (2 : Nat)) (List.drop (0 : Nat) (seCells b))))) true (Ob.cells true))).3 == (appI (appI x.1 x.2 x.3 x.4 x.5 (Row.mk (List.take (List.length a * (2 : Nat)) (List.drop (0 : Nat) (seCells a))) true (Ob.cells true))).1 (appI x.1 x.2 x.3 x.4 x.5 (Row.mk (List.take (List.length a * (2 : Nat)) (List.drop (0 : Nat) (seCells a))) true (Ob.cells true))).2 (appI x.1 x.2 x.3 x.4 x.5 (Row.mk (List.take (List.length a * (2 : Nat)) (List.drop (0 : Nat) (seCells a))) true (Ob.cells true))).3 (appI x.1 x.2 x.3 x.4 x.5 (Row.mk (List.take (List.length a * (2 : Nat)) (List.drop (0 : Nat) (seCells a))) true (Ob.cells true))).4 (appI x.1 x.2 x.3 x.4 x.5 (Row.mk (List.take (List.length a * (2 : Nat)) (List.drop (0 : Nat) (seCells a))) true (Ob.cells true))).5 (Row.mk (List.take (List.length b * (2 : Nat)) (List.drop (0 : Nat) (seCells b))) true (Ob.cells true))).3 && ((appI x.1 x.2 x.3 x.4 x.5 (Row.mk (List.take (((0 : Nat) + List.length a + List.length b) * (2 : Nat)) (List.drop (0 : Nat) (List.take (((0 : Nat) + List.length a) * (2 : Nat)) (List.drop (0 : Nat) ([] ++ List.take (List.length a * (2 : Nat)) (List.drop (0 : Nat) (seCells a)))) ++ List.take (List.length b * (2 : Nat)) (List.drop (0 : Nat) (seCells b))))) true (Ob.cells true))).4 == (appI (appI x.1 x.2 x.3 x.4 x.5 (Row.mk (List.take (List.length a * (2 : Nat)) (List.drop (0 : Nat) (seCells a))) true (Ob.cells true))).1 (appI x.1 x.2 x.3 x.4 x.5 (Row.mk (List.take (List.length a * (2 : Nat)) (List.drop (0 : Nat) (seCells a))) true (Ob.cells true))).2 (appI x.1 x.2 x.3 x.4 x.5 (Row.mk (List.take (List.length a * (2 : Nat)) (List.drop (0 : Nat) (seCells a))) true (Ob.cells true))).3 (appI x.1 x.2 x.3 x.4 x.5 (Row.mk (List.take (List.length a * (2 : Nat)) (List.drop (0 : Nat) (seCells a))) true (Ob.cells true))).4 (appI x.1 x.2 x.3 x.4 x.5 (Row.mk (List.take (List.length a * (2 : Nat)) (List.drop (0 : Nat) (seCells a))) true (Ob.cells true))).5 (Row.mk (List.take (List.length b * (2 : Nat)) (List.drop (0 : Nat) (seCells b))) true (Ob.cells true))).4 && ((appI x.1 x.2 x.3 x.4 x.5 (Row.mk (List.take (((0 : Nat) + List.length a + List.length b) * (2 : Nat)) (List.drop (0 : Nat) (List.take (((0 : Nat) + List.length a) * (2 : Nat)) (List.drop (0 : Nat) ([] ++ List.take (List.length a * (2 : Nat)) (List.drop (0 : Nat) (seCells a)))) ++ List.take (List.length b * (2 : Nat)) (List.drop (0 : Nat) (seCells b))))) true (Ob.cells true))).5 == (appI (appI x.1 x.2 x.3 x.4 x.5 (Row.mk (List.take (List.length a * (2 : Nat)) (List.drop (0 : Nat) (seCells a))) true (Ob.cells true))).1 (appI x.1 x.2 x.3 x.4 x.5 (Row.mk (List.take (List.length a * (2 : Nat)) (List.drop (0 : Nat) (seCells a))) true (Ob.cells true))).2 (appI x.1 x.2 x.3 x.4 x.5 (Row.mk (List.take (List.length a * (2 : Nat)) (List.drop (0 : Nat) (seCells a))) true (Ob.cells true))).3 (appI x.1 x.2 x.3 x.4 x.5 (Row.mk (List.take (List.length a * (2 : Nat)) (List.drop (0 : Nat) (seCells a))) true (Ob.cells true))).4 (appI x.1 x.2 x.3 x.4 x.5 (Row.mk (List.take (List.length a * (2 : Nat)) (List.drop (0 : Nat) (seCells a))) true (Ob.cells true))).5 (Row.mk (List.take (List.length b * (2 : Nat)) (List.drop (0 : Nat) (seCells b))) true (Ob.cells true))).5 && true)))))
                (br (errI (Row.mk (List.take (((0 : Nat) + List.length a + List.length b) * (2 : Nat)) (List.drop (0 : Nat) (List.take (((0 : Nat) + List.length a) * (2 : Nat)) (List.drop (0 : Nat) ([] ++ List.take (List.length a * (2 : Nat)) (List.drop (0 : Nat) (seCells a)))) ++ List.take (List.length b * (2 : Nat)) (List.drop (0 : Nat) (seCells b))))) true (Ob.cells true)) == (0 : Int))
                 (((True ∧ (True ∧ True))) ∧
                 ((true = true) ∧
                 ((Eq (α := List Value) (seCells a) (seCells a)) ∧
                 ((Plain (seCells a)) ∧
                 ((Eq (α := List Value) (seCells b) (seCells b)) ∧
                 ((Plain (seCells b)) ∧
                 True))))))
                 ((true = false) ∧
                 ((Eq (α := List Value) (seCells a) (seCells a)) ∧
                 ((Plain (seCells a)) ∧
                 ((Eq (α := List Value) (seCells b) (seCells b)) ∧
                 ((Plain (seCells b)) ∧
                 True))))))
                ((true = false) ∧
                ((Eq (α := List Value) (seCells a) (seCells a)) ∧
                ((Plain (seCells a)) ∧
                ((Eq (α := List Value) (seCells b) (seCells b)) ∧
                ((Plain (seCells b)) ∧
                True))))))))))))
             False)
            False)
           False)
          False)
         False)
        False)
       False)
      False)
     False))))) := by kernel_rfl
theorem decS_cells : ∀ l : List Se, decS (seCells l) = l
  | [] => rfl
  | s :: l => by
    have := decS_cells l
    unfold seCells at this ⊢
    rw [List.flatMap_cons]
    show _ :: decS (l.flatMap seC) = _
    rw [this]
theorem dSe_mk (l : List Se) (a : Bool) (o : Ob) : dSe ⟨seCells l, a, o⟩ = l := decS_cells l
theorem isSe_mk (l : List Se) (n : Nat) (h : n = l.length) : IsSe ⟨seCells l, true, .cells true⟩ n := ⟨l, rfl, h⟩
theorem seC_app (a b : List Se) : seCells a ++ seCells b = seCells (a ++ b) := by simp [seCells]
theorem seC_take (l : List Se) : (seCells l).take (l.length * 2) = seCells l := List.take_of_length_le (by rw [seC_len]; omega)
set_option maxRecDepth 4000 in
theorem cP_ok : ∀ f a rows p v news, cP f a rows = some (p, v, news) → p → Con Try.prog f a rows v (rows ++ news) := by
  intro f a rows p v news h hp
  unfold cP at h
  split at h <;> simp only [Option.some.injEq, Prod.mk.injEq, reduceCtorEq] at h <;> obtain ⟨rfl, rfl, rfl⟩ := h
  · obtain ⟨⟨l, rfl, rfl⟩, hl⟩ := hp
    have e : dSe (seRo l) = l := dSe_mk _ _ _
    simp only [appI, errI, e, List.append_nil]
    exact app_con ⟨_, _, _, _, _⟩ l hl
  · exact con_run mixed (n := 1000000) (by kernel_rfl) (by kernel_rfl)
theorem parts_law (x : St) (a b : List Se) (ha : a.length ≤ maxLen) (_ : ∀ s ∈ a, True) (hb : b.length ≤ maxLen) (_ : ∀ s ∈ b, True) :
    Con Try.prog 5 [stV x, .slice (some ⟨0, 0, none⟩) a.length 2, .slice (some ⟨1, 0, none⟩) b.length 2] [seRo a, seRo b] (.bool true) [seRo a, seRo b] := by
  refine con_vc (E := EP) mixed (calls_envC cP_ok) (lok_envC _ _ _) (M := noM) lm_none (parts_vc x a b) ?_
  have hm : maxLen = 9223372036854775807 := by unfold maxLen; rfl
  simp only [ofNat_eq, toNat_cast, Nat.zero_add, Nat.add_zero, Nat.mul_one, List.drop_zero, bCells_len, bCells_drop, bCells_take, bCells_app, bCells_one, bCells_plain, List.length_replicate, List.length_append, List.length_take, List.length_drop, List.take_length, and_true, true_and, and_self, decide_true, List.length_nil, List.length_cons, Nat.sub_zero, dB_mk, dB_ro, List.take_zero, seC_plain, seC_take, seC_app, seC_len, List.nil_append]
  refine br_if (fun _ => trivial) fun ha' => br_if (fun _ => trivial) fun hb' => ?_
  have e : List.take ((a.length + b.length) * 2) (seCells (a ++ b)) = seCells (a ++ b) := List.take_of_length_le (by rw [seC_len]; simp)
  have hA : ∀ (z : St) (l : List Se), appI z.a z.b z.c z.d z.e ⟨seCells l, true, .cells true⟩ = appSt z l := fun z l => by unfold appI; rw [dSe_mk]
  have hE : ∀ l : List Se, errI ⟨seCells l, true, .cells true⟩ = errL l := fun l => by unfold errI; rw [dSe_mk]
  have hO : ∀ l : List Se, allOne (seCells l) = true := fun l => by
    induction l with
    | nil => rfl
    | cons s l ih => exact ih
  have hl : (List.replicate 0 (Value.agg #[Value.int IntKind.i64 0, Value.int IntKind.i64 0]).cells.toList).flatten.length = 0 := rfl
  have q1 := isSe_mk a a.length rfl
  have q2 := isSe_mk b b.length rfl
  have q3 := isSe_mk (a ++ b) (a.length + b.length) (by simp)
  have same : ∀ z w : St, z = w → (z.a == w.a && (z.b == w.b && (z.c == w.c && (z.d == w.d && (z.e == w.e && true))))) = true := fun z w h => by subst h; simp
  have r1 := err_app b a
  have r2 := fin_app b a x
  simp only [e, hA, hE, hO, seC_plain, and_true]
  refine ⟨⟨by omega, q1, by omega⟩, ⟨by omega, q2, by omega⟩, br_dec (by omega) (br_b rfl (br_dec (by omega) (br_dec (.inr hl) (br_dec (by omega) (br_b rfl (br_dec (by omega) (br_dec (by omega) (br_dec (by omega) ⟨⟨by omega, q3, by omega⟩, br_intro (fun h => ?_) fun h => br_intro (fun h' => ?_) (fun h' => ?_)⟩))))))))⟩
  · have h : errL a ≠ 0 := by simpa using h
    rw [if_neg h] at r1
    have e1 : appSt x a = x := if_neg h
    have e2 : appSt x (a ++ b) = x := if_neg (by rw [r1]; exact h)
    exact br_b (same _ _ e1) (br_b (same _ _ e2) (br_b (by rw [r1]; simp) trivial))
  · have h : errL a = 0 := by simpa using h
    have h' : errL b ≠ 0 := by simpa using h'
    rw [if_pos h] at r1
    have e1 : appSt (appSt x a) b = appSt x a := if_neg h'
    have e2 : appSt x (a ++ b) = x := if_neg (by rw [r1]; exact h')
    exact br_b (same _ _ e1) (br_b (same _ _ e2) (br_b (by rw [r1]; simp) trivial))
  · have h : errL a = 0 := by simpa using h
    have h' : errL b = 0 := by simpa using h'
    rw [if_pos h] at r1
    have e1 : appSt x a = finL x a := if_pos h
    have e2 : appSt (finL x a) b = finL (finL x a) b := if_pos h'
    have e3 : appSt x (a ++ b) = finL x (a ++ b) := if_pos (by rw [r1]; exact h')
    exact br_b (same _ _ (by rw [e3, e1, e2, r2])) (br_b (by rw [r1, h']; rfl) trivial)
theorem elems_se {n : Nat} {cells : List Value} (h : Elems [.i .i64, .i .i64] n cells) : ∃ l : List Se, l.length = n ∧ cells = seCells l ∧ ∀ a ∈ l, True := by
  obtain ⟨l, h1, h2, _⟩ := h.data (α := Se) seC (fun _ => True) (fun c hc => by
    match c, hc with
    | [.int k x, .int k2 y], hc =>
      obtain ⟨⟨rfl, _⟩, ⟨rfl, _⟩, _⟩ := hc
      exact ⟨⟨x, y⟩, rfl, trivial⟩)
  exact ⟨l, h1, h2, fun _ _ => trivial⟩
theorem st_open {cs : List Value} (h : Cells [.i .i64, .i .i64, .i .i64, .i .i64, .i .i64] cs) : ∃ x : St, cs = stC x := by
  match cs, h with
  | [.int _ a, .int _ b, .int _ c, .int _ d, .int _ e], h =>
    obtain ⟨⟨rfl, _⟩, ⟨rfl, _⟩, ⟨rfl, _⟩, ⟨rfl, _⟩, ⟨rfl, _⟩, _⟩ := h
    exact ⟨⟨a, b, c, d, e⟩, rfl⟩
end Go.Proofs.Ytocehonfnpjcjaa.s11
