/- GuardPlays: any steps: what is done, and how all ends. -/
import Derived.Test.YtekijelmdajhlaaSz9
import Derived.Test.YtekijelmdajhlaaRows
import Derived.Test.YtekijelmdajhlaaLrnB
import Derived.Test.YtekijelmdajhlaaLiSame
set_option linter.unusedSimpArgs false
set_option linter.unusedVariables false
namespace Go.Proofs.Ytekijelmdajhlaa.gp
open Go Go.Ev Go.Sy Go.RowKit Go.Proofs.Ytekijelmdajhlaa.gl Go.Proofs.Ytekijelmdajhlaa.tk Go.Proofs.Ytekijelmdajhlaa.ic Go.Proofs.Ytekijelmdajhlaa.gm
noncomputable def eRunsP : EntM := entC 3 fun a r => match a, r with
  | [], [] => some (True, .bool true, [])
  | _, _ => none
def IsQ (r : Row) (n : Nat) : Prop := ∃ l, r = iRo .i64 l ∧ n = l.length ∧ l.length ≤ maxLen
noncomputable def sameI : Row → Row → Bool := Classical.choose (exZ fun (a b : Row) => decide (dI a = dI b))
noncomputable def eSame : EntM := entC 27 fun a r => match a, r with
  | [.slice (some ⟨0, 0, none⟩) n 1, .slice (some ⟨1, 0, none⟩) m 1], [r0, r1] => some (IsQ r0 n ∧ IsQ r1 m, .bool (sameI r0 r1), [])
  | _, _ => none
noncomputable def tGp : List EntM := [eTo 41, ePl 41, eSame, eRunsP]
noncomputable abbrev EGp : Env := envTd Try.prog tGp (fun _ => [])
theorem Gp_vc (l : List Ac) : mcall EGp noM 60 4 [.slice (some ⟨0, 0, none⟩) l.length 5] ⟨mkR (nums 0 [gRo enA l]), 1⟩ (retIs 1 (.bool true) [gRo enA l]) =
  (br (decide (Int.ofNat (List.length l) > (40 : Int))) (br (decide ((0 : Int) <= (↑0 : Int) /\ (↑0 : Int) <= (40 : Int) /\ (40 : Int) <= (↑(List.length l) : Int))) (((((200
  <= List.length (gC enA l) /\ Plain (List.take 200 (List.drop 0 (gC enA l)))) /\ (True /\ True)) /\ ((True /\ (Plain [] /\ True)) /\ ((Plain (iCells IntKind.i64 ([] ++ tNs
  (Row.mk (List.take 200 (List.drop 0 (gC enA l))) true (Ob.cells true)))) /\ True) /\ (IsA 41 (Row.mk (List.take 200 (List.drop 0 (gC enA l))) true (Ob.cells true)) 40 0 /\
  IsZ (Row.mk [] false (Ob.cells true)) 0))))) /\ (((((200 <= List.length (gC enA l) /\ Plain (List.take 200 (List.drop 0 (gC enA l)))) /\ (True /\ True)) /\ ((True /\
  ((True /\ True) /\ (Plain [] /\ True))) /\ ((Plain (iCells IntKind.i64 ([] ++ tNs (Row.mk (List.take 200 (List.drop 0 (gC enA l))) true (Ob.cells true)))) /\ True) /\ (IsA
  41 (Row.mk (List.take 200 (List.drop 0 (gC enA l))) true (Ob.cells true)) 40 0 /\ IsZ (Row.mk [] false (Ob.cells true)) 0))))) /\ (br (tOk (Row.mk (List.take 200
  (List.drop 0 (gC enA l))) true (Ob.cells true))) (br ((0 : Int) == tHow (Row.mk (List.take 200 (List.drop 0 (gC enA l))) true (Ob.cells true)) && ((0 : Int) == tCode
  (Row.mk (List.take 200 (List.drop 0 (gC enA l))) true (Ob.cells true)) && ((0 : Int) == tPos (Row.mk (List.take 200 (List.drop 0 (gC enA l))) true (Ob.cells true)) &&
  true) && true)) (((((0 + (0 + tLn (Row.mk (List.take 200 (List.drop 0 (gC enA l))) true (Ob.cells true))) * 1 <= List.length (iCells IntKind.i64 ([] ++ tNs (Row.mk
  (List.take 200 (List.drop 0 (gC enA l))) true (Ob.cells true)))) /\ Plain (List.take ((0 + tLn (Row.mk (List.take 200 (List.drop 0 (gC enA l))) true (Ob.cells true))) * 1)
  (List.drop 0 (iCells IntKind.i64 ([] ++ tNs (Row.mk (List.take 200 (List.drop 0 (gC enA l))) true (Ob.cells true))))))) /\ ((0 + (0 + tLn (Row.mk (List.take 200 (List.drop
  0 (gC enA l))) true (Ob.cells true))) * 1 <= List.length (iCells IntKind.i64 ([] ++ tNs (Row.mk (List.take 200 (List.drop 0 (gC enA l))) true (Ob.cells true)))) /\ Plain
  (List.take ((0 + tLn (Row.mk (List.take 200 (List.drop 0 (gC enA l))) true (Ob.cells true))) * 1) (List.drop 0 (iCells IntKind.i64 ([] ++ tNs (Row.mk (List.take 200
  (List.drop 0 (gC enA l))) true (Ob.cells true))))))) /\ True)) /\ ((True /\ (True /\ True)) /\ (True /\ (IsQ (Row.mk (List.take ((0 + tLn (Row.mk (List.take 200 (List.drop
  0 (gC enA l))) true (Ob.cells true))) * 1) (List.drop 0 (iCells IntKind.i64 ([] ++ tNs (Row.mk (List.take 200 (List.drop 0 (gC enA l))) true (Ob.cells true)))))) true
  (Ob.cells true)) (0 + tLn (Row.mk (List.take 200 (List.drop 0 (gC enA l))) true (Ob.cells true))) /\ IsQ (Row.mk (List.take ((0 + tLn (Row.mk (List.take 200 (List.drop 0
  (gC enA l))) true (Ob.cells true))) * 1) (List.drop 0 (iCells IntKind.i64 ([] ++ tNs (Row.mk (List.take 200 (List.drop 0 (gC enA l))) true (Ob.cells true)))))) true
  (Ob.cells true)) (0 + tLn (Row.mk (List.take 200 (List.drop 0 (gC enA l))) true (Ob.cells true)))))))) /\ (br (sameI (Row.mk (List.take ((0 + tLn (Row.mk (List.take 200
  (List.drop 0 (gC enA l))) true (Ob.cells true))) * 1) (List.drop 0 (iCells IntKind.i64 ([] ++ tNs (Row.mk (List.take 200 (List.drop 0 (gC enA l))) true (Ob.cells
  true)))))) true (Ob.cells true)) (Row.mk (List.take ((0 + tLn (Row.mk (List.take 200 (List.drop 0 (gC enA l))) true (Ob.cells true))) * 1) (List.drop 0 (iCells IntKind.i64
  ([] ++ tNs (Row.mk (List.take 200 (List.drop 0 (gC enA l))) true (Ob.cells true)))))) true (Ob.cells true))) (((True /\ (True /\ (True /\ True)))) /\ ((true = true) /\
  ((Eq (α := List Value) (gC enA l) (gC enA l)) /\ ((Plain (gC enA l)) /\ True)))) ((true = false) /\ ((Eq (α := List Value) (gC enA l) (gC enA l)) /\ ((Plain (gC enA l)) /\
  True))))) ((true = false) /\ ((Eq (α := List Value) (gC enA l) (gC enA l)) /\ ((Plain (gC enA l)) /\ True)))) (br (tRt (Row.mk (List.take 200 (List.drop 0 (gC enA l)))
  true (Ob.cells true))) ((noGo (reps 10 dS (Int.toNat (tDep (Row.mk (List.take 200 (List.drop 0 (gC enA l))) true (Ob.cells true))))) = true) /\ (br ((2 : Int) == tHow
  (Row.mk (List.take 200 (List.drop 0 (gC enA l))) true (Ob.cells true)) && ((0 : Int) == tCode (Row.mk (List.take 200 (List.drop 0 (gC enA l))) true (Ob.cells true)) && ((0
  : Int) == tPos (Row.mk (List.take 200 (List.drop 0 (gC enA l))) true (Ob.cells true)) && true) && true)) (((((0 + (0 + tLn (Row.mk (List.take 200 (List.drop 0 (gC enA l)))
  true (Ob.cells true))) * 1 <= List.length (iCells IntKind.i64 ([] ++ tNs (Row.mk (List.take 200 (List.drop 0 (gC enA l))) true (Ob.cells true)))) /\ Plain (List.take ((0 +
  tLn (Row.mk (List.take 200 (List.drop 0 (gC enA l))) true (Ob.cells true))) * 1) (List.drop 0 (iCells IntKind.i64 ([] ++ tNs (Row.mk (List.take 200 (List.drop 0 (gC enA
  l))) true (Ob.cells true))))))) /\ ((0 + (0 + tLn (Row.mk (List.take 200 (List.drop 0 (gC enA l))) true (Ob.cells true))) * 1 <= List.length (iCells IntKind.i64 ([] ++ tNs
  (Row.mk (List.take 200 (List.drop 0 (gC enA l))) true (Ob.cells true)))) /\ Plain (List.take ((0 + tLn (Row.mk (List.take 200 (List.drop 0 (gC enA l))) true (Ob.cells
  true))) * 1) (List.drop 0 (iCells IntKind.i64 ([] ++ tNs (Row.mk (List.take 200 (List.drop 0 (gC enA l))) true (Ob.cells true))))))) /\ True)) /\ ((True /\ (True /\ True))
  /\ (True /\ (IsQ (Row.mk (List.take ((0 + tLn (Row.mk (List.take 200 (List.drop 0 (gC enA l))) true (Ob.cells true))) * 1) (List.drop 0 (iCells IntKind.i64 ([] ++ tNs
  (Row.mk (List.take 200 (List.drop 0 (gC enA l))) true (Ob.cells true)))))) true (Ob.cells true)) (0 + tLn (Row.mk (List.take 200 (List.drop 0 (gC enA l))) true (Ob.cells
  true))) /\ IsQ (Row.mk (List.take ((0 + tLn (Row.mk (List.take 200 (List.drop 0 (gC enA l))) true (Ob.cells true))) * 1) (List.drop 0 (iCells IntKind.i64 ([] ++ tNs
  (Row.mk (List.take 200 (List.drop 0 (gC enA l))) true (Ob.cells true)))))) true (Ob.cells true)) (0 + tLn (Row.mk (List.take 200 (List.drop 0 (gC enA l))) true (Ob.cells
  true)))))))) /\ (br (sameI (Row.mk (List.take ((0 + tLn (Row.mk (List.take 200 (List.drop 0 (gC enA l))) true (Ob.cells true))) * 1) (List.drop 0 (iCells IntKind.i64 ([]
  ++ tNs (Row.mk (List.take 200 (List.drop 0 (gC enA l))) true (Ob.cells true)))))) true (Ob.cells true)) (Row.mk (List.take ((0 + tLn (Row.mk (List.take 200 (List.drop 0
  (gC enA l))) true (Ob.cells true))) * 1) (List.drop 0 (iCells IntKind.i64 ([] ++ tNs (Row.mk (List.take 200 (List.drop 0 (gC enA l))) true (Ob.cells true)))))) true
  (Ob.cells true))) (((True /\ (True /\ (True /\ True)))) /\ ((true = true) /\ ((Eq (α := List Value) (gC enA l) (gC enA l)) /\ ((Plain (gC enA l)) /\ True)))) ((true =
  false) /\ ((Eq (α := List Value) (gC enA l) (gC enA l)) /\ ((Plain (gC enA l)) /\ True))))) ((true = false) /\ ((Eq (α := List Value) (gC enA l) (gC enA l)) /\ ((Plain (gC
  enA l)) /\ True))))) ((true = true) /\ (br ((1 : Int) == tHow (Row.mk (List.take 200 (List.drop 0 (gC enA l))) true (Ob.cells true)) && (tCode (Row.mk (List.take 200
  (List.drop 0 (gC enA l))) true (Ob.cells true)) == tCode (Row.mk (List.take 200 (List.drop 0 (gC enA l))) true (Ob.cells true)) && (tPos (Row.mk (List.take 200 (List.drop
  0 (gC enA l))) true (Ob.cells true)) == tPos (Row.mk (List.take 200 (List.drop 0 (gC enA l))) true (Ob.cells true)) && true) && true)) (((((0 + (0 + tLn (Row.mk (List.take
  200 (List.drop 0 (gC enA l))) true (Ob.cells true))) * 1 <= List.length (iCells IntKind.i64 ([] ++ tNs (Row.mk (List.take 200 (List.drop 0 (gC enA l))) true (Ob.cells
  true)))) /\ Plain (List.take ((0 + tLn (Row.mk (List.take 200 (List.drop 0 (gC enA l))) true (Ob.cells true))) * 1) (List.drop 0 (iCells IntKind.i64 ([] ++ tNs (Row.mk
  (List.take 200 (List.drop 0 (gC enA l))) true (Ob.cells true))))))) /\ ((0 + (0 + tLn (Row.mk (List.take 200 (List.drop 0 (gC enA l))) true (Ob.cells true))) * 1 <=
  List.length (iCells IntKind.i64 ([] ++ tNs (Row.mk (List.take 200 (List.drop 0 (gC enA l))) true (Ob.cells true)))) /\ Plain (List.take ((0 + tLn (Row.mk (List.take 200
  (List.drop 0 (gC enA l))) true (Ob.cells true))) * 1) (List.drop 0 (iCells IntKind.i64 ([] ++ tNs (Row.mk (List.take 200 (List.drop 0 (gC enA l))) true (Ob.cells
  true))))))) /\ True)) /\ ((True /\ (True /\ True)) /\ (True /\ (IsQ (Row.mk (List.take ((0 + tLn (Row.mk (List.take 200 (List.drop 0 (gC enA l))) true (Ob.cells true))) *
  1) (List.drop 0 (iCells IntKind.i64 ([] ++ tNs (Row.mk (List.take 200 (List.drop 0 (gC enA l))) true (Ob.cells true)))))) true (Ob.cells true)) (0 + tLn (Row.mk (List.take
  200 (List.drop 0 (gC enA l))) true (Ob.cells true))) /\ IsQ (Row.mk (List.take ((0 + tLn (Row.mk (List.take 200 (List.drop 0 (gC enA l))) true (Ob.cells true))) * 1)
  (List.drop 0 (iCells IntKind.i64 ([] ++ tNs (Row.mk (List.take 200 (List.drop 0 (gC enA l))) true (Ob.cells true)))))) true (Ob.cells true)) (0 + tLn (Row.mk (List.take
  200 (List.drop 0 (gC enA l))) true (Ob.cells true)))))))) /\ (br (sameI (Row.mk (List.take ((0 + tLn (Row.mk (List.take 200 (List.drop 0 (gC enA l))) true (Ob.cells
  true))) * 1) (List.drop 0 (iCells IntKind.i64 ([] ++ tNs (Row.mk (List.take 200 (List.drop 0 (gC enA l))) true (Ob.cells true)))))) true (Ob.cells true)) (Row.mk
  (List.take ((0 + tLn (Row.mk (List.take 200 (List.drop 0 (gC enA l))) true (Ob.cells true))) * 1) (List.drop 0 (iCells IntKind.i64 ([] ++ tNs (Row.mk (List.take 200
  (List.drop 0 (gC enA l))) true (Ob.cells true)))))) true (Ob.cells true))) (((True /\ (True /\ (True /\ True)))) /\ ((true = true) /\ ((Eq (α := List Value) (gC enA l) (gC
  enA l)) /\ ((Plain (gC enA l)) /\ True)))) ((true = false) /\ ((Eq (α := List Value) (gC enA l) (gC enA l)) /\ ((Plain (gC enA l)) /\ True))))) ((true = false) /\ ((Eq (α
  := List Value) (gC enA l) (gC enA l)) /\ ((Plain (gC enA l)) /\ True))))))))) False) (((((0 + List.length l * 5 <= List.length (gC enA l) /\ Plain (List.take (List.length
  l * 5) (List.drop 0 (gC enA l)))) /\ (True /\ True)) /\ ((True /\ (Plain [] /\ True)) /\ ((Plain (iCells IntKind.i64 ([] ++ tNs (Row.mk (List.take (List.length l * 5)
  (List.drop 0 (gC enA l))) true (Ob.cells true)))) /\ True) /\ (IsA 41 (Row.mk (List.take (List.length l * 5) (List.drop 0 (gC enA l))) true (Ob.cells true)) (List.length
  l) 0 /\ IsZ (Row.mk [] false (Ob.cells true)) 0))))) /\ (((((0 + List.length l * 5 <= List.length (gC enA l) /\ Plain (List.take (List.length l * 5) (List.drop 0 (gC enA
  l)))) /\ (True /\ True)) /\ ((True /\ ((True /\ True) /\ (Plain [] /\ True))) /\ ((Plain (iCells IntKind.i64 ([] ++ tNs (Row.mk (List.take (List.length l * 5) (List.drop 0
  (gC enA l))) true (Ob.cells true)))) /\ True) /\ (IsA 41 (Row.mk (List.take (List.length l * 5) (List.drop 0 (gC enA l))) true (Ob.cells true)) (List.length l) 0 /\ IsZ
  (Row.mk [] false (Ob.cells true)) 0))))) /\ (br (tOk (Row.mk (List.take (List.length l * 5) (List.drop 0 (gC enA l))) true (Ob.cells true))) (br ((0 : Int) == tHow (Row.mk
  (List.take (List.length l * 5) (List.drop 0 (gC enA l))) true (Ob.cells true)) && ((0 : Int) == tCode (Row.mk (List.take (List.length l * 5) (List.drop 0 (gC enA l))) true
  (Ob.cells true)) && ((0 : Int) == tPos (Row.mk (List.take (List.length l * 5) (List.drop 0 (gC enA l))) true (Ob.cells true)) && true) && true)) (((((0 + (0 + tLn (Row.mk
  (List.take (List.length l * 5) (List.drop 0 (gC enA l))) true (Ob.cells true))) * 1 <= List.length (iCells IntKind.i64 ([] ++ tNs (Row.mk (List.take (List.length l * 5)
  (List.drop 0 (gC enA l))) true (Ob.cells true)))) /\ Plain (List.take ((0 + tLn (Row.mk (List.take (List.length l * 5) (List.drop 0 (gC enA l))) true (Ob.cells true))) *
  1) (List.drop 0 (iCells IntKind.i64 ([] ++ tNs (Row.mk (List.take (List.length l * 5) (List.drop 0 (gC enA l))) true (Ob.cells true))))))) /\ ((0 + (0 + tLn (Row.mk
  (List.take (List.length l * 5) (List.drop 0 (gC enA l))) true (Ob.cells true))) * 1 <= List.length (iCells IntKind.i64 ([] ++ tNs (Row.mk (List.take (List.length l * 5)
  (List.drop 0 (gC enA l))) true (Ob.cells true)))) /\ Plain (List.take ((0 + tLn (Row.mk (List.take (List.length l * 5) (List.drop 0 (gC enA l))) true (Ob.cells true))) *
  1) (List.drop 0 (iCells IntKind.i64 ([] ++ tNs (Row.mk (List.take (List.length l * 5) (List.drop 0 (gC enA l))) true (Ob.cells true))))))) /\ True)) /\ ((True /\ (True /\
  True)) /\ (True /\ (IsQ (Row.mk (List.take ((0 + tLn (Row.mk (List.take (List.length l * 5) (List.drop 0 (gC enA l))) true (Ob.cells true))) * 1) (List.drop 0 (iCells
  IntKind.i64 ([] ++ tNs (Row.mk (List.take (List.length l * 5) (List.drop 0 (gC enA l))) true (Ob.cells true)))))) true (Ob.cells true)) (0 + tLn (Row.mk (List.take
  (List.length l * 5) (List.drop 0 (gC enA l))) true (Ob.cells true))) /\ IsQ (Row.mk (List.take ((0 + tLn (Row.mk (List.take (List.length l * 5) (List.drop 0 (gC enA l)))
  true (Ob.cells true))) * 1) (List.drop 0 (iCells IntKind.i64 ([] ++ tNs (Row.mk (List.take (List.length l * 5) (List.drop 0 (gC enA l))) true (Ob.cells true)))))) true
  (Ob.cells true)) (0 + tLn (Row.mk (List.take (List.length l * 5) (List.drop 0 (gC enA l))) true (Ob.cells true)))))))) /\ (br (sameI (Row.mk (List.take ((0 + tLn (Row.mk
  (List.take (List.length l * 5) (List.drop 0 (gC enA l))) true (Ob.cells true))) * 1) (List.drop 0 (iCells IntKind.i64 ([] ++ tNs (Row.mk (List.take (List.length l * 5)
  (List.drop 0 (gC enA l))) true (Ob.cells true)))))) true (Ob.cells true)) (Row.mk (List.take ((0 + tLn (Row.mk (List.take (List.length l * 5) (List.drop 0 (gC enA l)))
  true (Ob.cells true))) * 1) (List.drop 0 (iCells IntKind.i64 ([] ++ tNs (Row.mk (List.take (List.length l * 5) (List.drop 0 (gC enA l))) true (Ob.cells true)))))) true
  (Ob.cells true))) (((True /\ (True /\ (True /\ True)))) /\ ((true = true) /\ ((Eq (α := List Value) (gC enA l) (gC enA l)) /\ ((Plain (gC enA l)) /\ True)))) ((true =
  false) /\ ((Eq (α := List Value) (gC enA l) (gC enA l)) /\ ((Plain (gC enA l)) /\ True))))) ((true = false) /\ ((Eq (α := List Value) (gC enA l) (gC enA l)) /\ ((Plain (gC
  enA l)) /\ True)))) (br (tRt (Row.mk (List.take (List.length l * 5) (List.drop 0 (gC enA l))) true (Ob.cells true))) ((noGo (reps 10 dS (Int.toNat (tDep (Row.mk (List.take
  (List.length l * 5) (List.drop 0 (gC enA l))) true (Ob.cells true))))) = true) /\ (br ((2 : Int) == tHow (Row.mk (List.take (List.length l * 5) (List.drop 0 (gC enA l)))
  true (Ob.cells true)) && ((0 : Int) == tCode (Row.mk (List.take (List.length l * 5) (List.drop 0 (gC enA l))) true (Ob.cells true)) && ((0 : Int) == tPos (Row.mk
  (List.take (List.length l * 5) (List.drop 0 (gC enA l))) true (Ob.cells true)) && true) && true)) (((((0 + (0 + tLn (Row.mk (List.take (List.length l * 5) (List.drop 0 (gC
  enA l))) true (Ob.cells true))) * 1 <= List.length (iCells IntKind.i64 ([] ++ tNs (Row.mk (List.take (List.length l * 5) (List.drop 0 (gC enA l))) true (Ob.cells true))))
  /\ Plain (List.take ((0 + tLn (Row.mk (List.take (List.length l * 5) (List.drop 0 (gC enA l))) true (Ob.cells true))) * 1) (List.drop 0 (iCells IntKind.i64 ([] ++ tNs
  (Row.mk (List.take (List.length l * 5) (List.drop 0 (gC enA l))) true (Ob.cells true))))))) /\ ((0 + (0 + tLn (Row.mk (List.take (List.length l * 5) (List.drop 0 (gC enA
  l))) true (Ob.cells true))) * 1 <= List.length (iCells IntKind.i64 ([] ++ tNs (Row.mk (List.take (List.length l * 5) (List.drop 0 (gC enA l))) true (Ob.cells true)))) /\
  Plain (List.take ((0 + tLn (Row.mk (List.take (List.length l * 5) (List.drop 0 (gC enA l))) true (Ob.cells true))) * 1) (List.drop 0 (iCells IntKind.i64 ([] ++ tNs (Row.mk
  (List.take (List.length l * 5) (List.drop 0 (gC enA l))) true (Ob.cells true))))))) /\ True)) /\ ((True /\ (True /\ True)) /\ (True /\ (IsQ (Row.mk (List.take ((0 + tLn
  (Row.mk (List.take (List.length l * 5) (List.drop 0 (gC enA l))) true (Ob.cells true))) * 1) (List.drop 0 (iCells IntKind.i64 ([] ++ tNs (Row.mk (List.take (List.length l
  * 5) (List.drop 0 (gC enA l))) true (Ob.cells true)))))) true (Ob.cells true)) (0 + tLn (Row.mk (List.take (List.length l * 5) (List.drop 0 (gC enA l))) true (Ob.cells
  true))) /\ IsQ (Row.mk (List.take ((0 + tLn (Row.mk (List.take (List.length l * 5) (List.drop 0 (gC enA l))) true (Ob.cells true))) * 1) (List.drop 0 (iCells IntKind.i64
  ([] ++ tNs (Row.mk (List.take (List.length l * 5) (List.drop 0 (gC enA l))) true (Ob.cells true)))))) true (Ob.cells true)) (0 + tLn (Row.mk (List.take (List.length l * 5)
  (List.drop 0 (gC enA l))) true (Ob.cells true)))))))) /\ (br (sameI (Row.mk (List.take ((0 + tLn (Row.mk (List.take (List.length l * 5) (List.drop 0 (gC enA l))) true
  (Ob.cells true))) * 1) (List.drop 0 (iCells IntKind.i64 ([] ++ tNs (Row.mk (List.take (List.length l * 5) (List.drop 0 (gC enA l))) true (Ob.cells true)))))) true
  (Ob.cells true)) (Row.mk (List.take ((0 + tLn (Row.mk (List.take (List.length l * 5) (List.drop 0 (gC enA l))) true (Ob.cells true))) * 1) (List.drop 0 (iCells IntKind.i64
  ([] ++ tNs (Row.mk (List.take (List.length l * 5) (List.drop 0 (gC enA l))) true (Ob.cells true)))))) true (Ob.cells true))) (((True /\ (True /\ (True /\ True)))) /\
  ((true = true) /\ ((Eq (α := List Value) (gC enA l) (gC enA l)) /\ ((Plain (gC enA l)) /\ True)))) ((true = false) /\ ((Eq (α := List Value) (gC enA l) (gC enA l)) /\
  ((Plain (gC enA l)) /\ True))))) ((true = false) /\ ((Eq (α := List Value) (gC enA l) (gC enA l)) /\ ((Plain (gC enA l)) /\ True))))) ((true = true) /\ (br ((1 : Int) ==
  tHow (Row.mk (List.take (List.length l * 5) (List.drop 0 (gC enA l))) true (Ob.cells true)) && (tCode (Row.mk (List.take (List.length l * 5) (List.drop 0 (gC enA l))) true
  (Ob.cells true)) == tCode (Row.mk (List.take (List.length l * 5) (List.drop 0 (gC enA l))) true (Ob.cells true)) && (tPos (Row.mk (List.take (List.length l * 5) (List.drop
  0 (gC enA l))) true (Ob.cells true)) == tPos (Row.mk (List.take (List.length l * 5) (List.drop 0 (gC enA l))) true (Ob.cells true)) && true) && true)) (((((0 + (0 + tLn
  (Row.mk (List.take (List.length l * 5) (List.drop 0 (gC enA l))) true (Ob.cells true))) * 1 <= List.length (iCells IntKind.i64 ([] ++ tNs (Row.mk (List.take (List.length l
  * 5) (List.drop 0 (gC enA l))) true (Ob.cells true)))) /\ Plain (List.take ((0 + tLn (Row.mk (List.take (List.length l * 5) (List.drop 0 (gC enA l))) true (Ob.cells
  true))) * 1) (List.drop 0 (iCells IntKind.i64 ([] ++ tNs (Row.mk (List.take (List.length l * 5) (List.drop 0 (gC enA l))) true (Ob.cells true))))))) /\ ((0 + (0 + tLn
  (Row.mk (List.take (List.length l * 5) (List.drop 0 (gC enA l))) true (Ob.cells true))) * 1 <= List.length (iCells IntKind.i64 ([] ++ tNs (Row.mk (List.take (List.length l
  * 5) (List.drop 0 (gC enA l))) true (Ob.cells true)))) /\ Plain (List.take ((0 + tLn (Row.mk (List.take (List.length l * 5) (List.drop 0 (gC enA l))) true (Ob.cells
  true))) * 1) (List.drop 0 (iCells IntKind.i64 ([] ++ tNs (Row.mk (List.take (List.length l * 5) (List.drop 0 (gC enA l))) true (Ob.cells true))))))) /\ True)) /\ ((True /\
  (True /\ True)) /\ (True /\ (IsQ (Row.mk (List.take ((0 + tLn (Row.mk (List.take (List.length l * 5) (List.drop 0 (gC enA l))) true (Ob.cells true))) * 1) (List.drop 0
  (iCells IntKind.i64 ([] ++ tNs (Row.mk (List.take (List.length l * 5) (List.drop 0 (gC enA l))) true (Ob.cells true)))))) true (Ob.cells true)) (0 + tLn (Row.mk (List.take
  (List.length l * 5) (List.drop 0 (gC enA l))) true (Ob.cells true))) /\ IsQ (Row.mk (List.take ((0 + tLn (Row.mk (List.take (List.length l * 5) (List.drop 0 (gC enA l)))
  true (Ob.cells true))) * 1) (List.drop 0 (iCells IntKind.i64 ([] ++ tNs (Row.mk (List.take (List.length l * 5) (List.drop 0 (gC enA l))) true (Ob.cells true)))))) true
  (Ob.cells true)) (0 + tLn (Row.mk (List.take (List.length l * 5) (List.drop 0 (gC enA l))) true (Ob.cells true)))))))) /\ (br (sameI (Row.mk (List.take ((0 + tLn (Row.mk
  (List.take (List.length l * 5) (List.drop 0 (gC enA l))) true (Ob.cells true))) * 1) (List.drop 0 (iCells IntKind.i64 ([] ++ tNs (Row.mk (List.take (List.length l * 5)
  (List.drop 0 (gC enA l))) true (Ob.cells true)))))) true (Ob.cells true)) (Row.mk (List.take ((0 + tLn (Row.mk (List.take (List.length l * 5) (List.drop 0 (gC enA l)))
  true (Ob.cells true))) * 1) (List.drop 0 (iCells IntKind.i64 ([] ++ tNs (Row.mk (List.take (List.length l * 5) (List.drop 0 (gC enA l))) true (Ob.cells true)))))) true
  (Ob.cells true))) (((True /\ (True /\ (True /\ True)))) /\ ((true = true) /\ ((Eq (α := List Value) (gC enA l) (gC enA l)) /\ ((Plain (gC enA l)) /\ True)))) ((true =
  false) /\ ((Eq (α := List Value) (gC enA l) (gC enA l)) /\ ((Plain (gC enA l)) /\ True))))) ((true = false) /\ ((Eq (α := List Value) (gC enA l) (gC enA l)) /\ ((Plain (gC
  enA l)) /\ True)))))))))) := by kernel_rfl
theorem z_same (a b : List Int) : sameI ⟨iCells .i64 a, true, .cells true⟩ ⟨iCells .i64 b, true, .cells true⟩ = decide (a = b) := by
  have h : sameI = _ := Classical.choose_spec (exZ fun (a b : Row) => decide (dI a = dI b))
  rw [h]; simp only [dI_mk]
theorem eSame_ok : EntOk Try.prog eSame := entC_ok (by
  intro a rows p v news h hp
  split at h <;> simp only [Option.some.injEq, Prod.mk.injEq, reduceCtorEq] at h
  obtain ⟨rfl, rfl, rfl⟩ := h
  obtain ⟨⟨x, rfl, rfl, h1⟩, ⟨y, rfl, rfl, _⟩⟩ := hp
  have := ibk.same_con x y h1
  unfold iRo at this ⊢
  rw [z_same]
  exact this)
theorem eRunsP_ok : EntOk Try.prog eRunsP := entC_ok (by
  intro a rows p v news h hp
  split at h <;> simp only [Option.some.injEq, Prod.mk.injEq, reduceCtorEq] at h
  obtain ⟨rfl, rfl, rfl⟩ := h
  exact con_run mixed (n := 1000000) (by kernel_rfl) (by kernel_rfl))
theorem tGp_ok : ∀ x ∈ tGp, EntOk Try.prog x := all_cons (eTo_ok 41) (all_cons (ePl_ok 41) (all_cons eSame_ok (all_cons eRunsP_ok all_nil)))
theorem noGo_reps (t : Nat) (s : ByteArray) (n : Nat) : noGo (reps t s n) = true := by
  unfold noGo reps
  rw [List.all_eq_true]
  intro e he
  rw [(List.mem_replicate.1 he).2]
  rfl
theorem gp_law (l : List Ac) (hl : l.length ≤ maxLen) (ha : ∀ a ∈ l, OkA a) : Con Try.prog 4 [.slice (some ⟨0, 0, none⟩) l.length 5] [gRo enA l] (.bool true) [gRo enA l] := by
  refine con_vc (E := EGp) mixed (calls_envTd tGp_ok) (lok_envTd _ _ _) (M := noM) lm_none (Gp_vc l) ?_
  have e1 : (gC enA l).take 200 = gC enA (l.take 40) := gC_take (en := enA) (k := 5) (fun _ => rfl) l 40
  have e2 : (gC enA l).take (l.length * 5) = gC enA l := List.take_of_length_le (by rw [aLen]; omega)
  have e3 : ∀ x : List Int, (iCells .i64 x).take x.length = iCells .i64 x := fun x => List.take_of_length_le (by rw [iCells_len]; omega)
  have e4 : dI ⟨[], false, .cells true⟩ = [] := rfl
  simp only [ofNat_eq, toNat_cast, Nat.zero_add, Nat.add_zero, Nat.mul_one, List.drop_zero, bCells_len, bCells_drop, bCells_take, bCells_app, bCells_one, bCells_plain, List.length_replicate, List.length_append, List.length_take, List.length_drop, List.take_length, and_true, true_and, and_self, decide_true, List.length_nil, List.length_cons, Nat.sub_zero, dB_mk, dB_ro, List.take_zero, e1, e2, e3, e4, aPl, aLen, iCells_plain, iCells_len, z_tOk, z_tRt, z_tHow, z_tDep, z_tLn, z_tNs, z_tCode, z_tPos, z_same, noGo_reps, List.nil_append, true_and, and_true]
  have core : ∀ q : List Ac, q.length ≤ 40 → br (decide ((tl q).how = 0))
      (br (0 == (tl q).how && (0 == (tl q).code && (0 == (tl q).pos && true) && true)) (((tl q).ns.length ≤ (tl q).ns.length ∧ IsQ ⟨iCells .i64 (tl q).ns, true, .cells true⟩ (tl q).ns.length) ∧ br true True (true = false)) (true = false))
      (br (decide ((tl q).how = 2))
        (br (2 == (tl q).how && (0 == (tl q).code && (0 == (tl q).pos && true) && true)) (((tl q).ns.length ≤ (tl q).ns.length ∧ IsQ ⟨iCells .i64 (tl q).ns, true, .cells true⟩ (tl q).ns.length) ∧ br true True (true = false)) (true = false))
        (br (1 == (tl q).how && ((tl q).code == (tl q).code && ((tl q).pos == (tl q).pos && true) && true)) (((tl q).ns.length ≤ (tl q).ns.length ∧ IsQ ⟨iCells .i64 (tl q).ns, true, .cells true⟩ (tl q).ns.length) ∧ br true True (true = false)) (true = false))) := by
    intro q hq
    have hn := tl_len _ q (Nat.le_refl _)
    have good : ((tl q).ns.length ≤ (tl q).ns.length ∧ IsQ ⟨iCells .i64 (tl q).ns, true, .cells true⟩ (tl q).ns.length) ∧ br true True (true = false) := ⟨⟨Nat.le_refl _, _, rfl, rfl, by unfold maxLen; omega⟩, trivial⟩
    have hz := tl_zero _ q (Nat.le_refl _)
    refine br_intro (fun o => ?_) (fun o => br_intro (fun o2 => ?_) (fun o2 => ?_))
    · have o : (tl q).how = 0 := by simpa using o
      rcases hz with ⟨_, z1, z2⟩ | hz | hz
      · exact br_b (by rw [o, z1, z2]; rfl) good
      · rw [o] at hz; simp at hz
      · rw [o] at hz; simp at hz
    · have o2 : (tl q).how = 2 := by simpa using o2
      obtain ⟨z1, z2⟩ := tl_two _ q (Nat.le_refl _) o2
      exact br_b (by rw [o2, z1, z2]; rfl) good
    · have o : ¬ (tl q).how = 0 := by simpa using o
      have o2 : ¬ (tl q).how = 2 := by simpa using o2
      rcases hz with hz | hz | hz
      · exact absurd hz.1 o
      · exact br_b (by rw [hz]; simp) good
      · exact absurd hz o2
  have pn : Plain [] := fun v hv => by simp at hv
  have zn : IsZ ⟨[], false, .cells true⟩ 0 := ⟨[], rfl, rfl⟩
  refine br_if (fun h => br_dec (by omega) ?_) (fun h => ?_)
  · have ql : (l.take 40).length = 40 := by rw [List.length_take]; omega
    have hA : IsA 41 ⟨gC enA (l.take 40), true, .cells true⟩ 40 0 := ⟨_, rfl, ql.symm, by omega, fun a h => ha a (List.mem_of_mem_take h), by omega⟩
    exact ⟨⟨by omega, pn, hA, zn⟩, ⟨by omega, pn, hA, zn⟩, core _ (by omega)⟩
  · have hA : IsA 41 ⟨gC enA l, true, .cells true⟩ l.length 0 := ⟨_, rfl, rfl, by omega, ha, by omega⟩
    exact ⟨⟨Nat.le_refl _, pn, hA, zn⟩, ⟨Nat.le_refl _, pn, hA, zn⟩, core _ (by omega)⟩
theorem q_ac {Q : Nat → Prop} {n : Nat} {cells : List Value} (h : ElemsQ Q [.i .i64, .i .i64, .i .i64, .i .i64, .b] n cells) : ∃ l : List Ac, l.length = n ∧ cells = gC enA l ∧ ∀ a ∈ l, OkA a := by
  obtain ⟨l, h1, h2, h3⟩ := h.data (α := Ac) enA OkA (fun c hc => by
    match c, hc with
    | [x, y, z, w, v], hc =>
      obtain ⟨c1, c2, c3, c4, c5, _⟩ := hc
      obtain ⟨a1, rfl, q1⟩ := cq_i c1
      obtain ⟨a2, rfl, q2⟩ := cq_i c2
      obtain ⟨a3, rfl, q3⟩ := cq_i c3
      obtain ⟨a4, rfl, q4⟩ := cq_i c4
      obtain ⟨a5, rfl⟩ := cq_b c5
      exact ⟨⟨a1, a2, a3, a4, a5⟩, rfl, Sy.wf64 q1, Sy.wf64 q2, Sy.wf64 q3, Sy.wf64 q4⟩)
  exact ⟨l, h1, h2, h3⟩
end Go.Proofs.Ytekijelmdajhlaa.gp
