/- GuardLast: two rows of steps: the second one is played in every case, and its own end counts, if it isn't its end. -/
import Derived.Test.YtekijelmdajhlaaSz9
import Derived.Test.YtekijelmdajhlaaRows
import Derived.Test.YtekijelmdajhlaaLshG
set_option linter.unusedSimpArgs false
set_option linter.unusedVariables false
namespace Go.Proofs.Ytekijelmdajhlaa.gp
open Go Go.Ev Go.Sy Go.RowKit Go.Proofs.Ytekijelmdajhlaa.gl Go.Proofs.Ytekijelmdajhlaa.tk Go.Proofs.Ytekijelmdajhlaa.ic Go.Proofs.Ytekijelmdajhlaa.gm
noncomputable def tGl : List EntM := [eTo 41, ePl 41, eSame, eRunsP, eSh]
noncomputable abbrev EGl : Env := envTd Try.prog tGl (fun _ => [])
set_option maxHeartbeats 2000000 in
theorem Gl_vc (a b : List Ac) : mcall EGl noM 60 6 [.slice (some ⟨0, 0, none⟩) a.length 5, .slice (some ⟨1, 0, none⟩) b.length 5] ⟨mkR (nums 0 [gRo enA a, gRo enA b]), 2⟩ (retIs 2 (.bool true) [gRo enA a, gRo enA b]) =
  (((((0 + List.length a * 5 <= List.length (gC enA a) /\ Plain (List.take (List.length a * 5) (List.drop 0 (gC enA a)))) /\ True) /\ ((True /\ True) /\ (True /\ IsL (Row.mk
  (List.take (List.length a * 5) (List.drop 0 (gC enA a))) true (Ob.cells true)) (List.length a))))) /\ (((((0 + shL (List.length a) * 5 <= List.length (gC enA a) /\ Plain
  (List.take (shL (List.length a) * 5) (List.drop 0 (gC enA a)))) /\ (True /\ True)) /\ ((True /\ (Plain [] /\ True)) /\ ((Plain (iCells IntKind.i64 ([] ++ tNs (Row.mk
  (List.take (shL (List.length a) * 5) (List.drop 0 (gC enA a))) true (Ob.cells true)))) /\ True) /\ (IsA 41 (Row.mk (List.take (shL (List.length a) * 5) (List.drop 0 (gC
  enA a))) true (Ob.cells true)) (shL (List.length a)) 0 /\ IsZ (Row.mk [] false (Ob.cells true)) 0))))) /\ (((((0 + List.length b * 5 <= List.length (gC enA b) /\ Plain
  (List.take (List.length b * 5) (List.drop 0 (gC enA b)))) /\ True) /\ ((True /\ True) /\ (True /\ IsL (Row.mk (List.take (List.length b * 5) (List.drop 0 (gC enA b))) true
  (Ob.cells true)) (List.length b))))) /\ (((((0 + shL (List.length b) * 5 <= List.length (gC enA b) /\ Plain (List.take (shL (List.length b) * 5) (List.drop 0 (gC enA b))))
  /\ (True /\ True)) /\ ((True /\ (Plain (iCells IntKind.i64 ([] ++ tNs (Row.mk (List.take (shL (List.length a) * 5) (List.drop 0 (gC enA a))) true (Ob.cells true)))) /\
  True)) /\ ((Plain (iCells IntKind.i64 (dI (Row.mk (iCells IntKind.i64 ([] ++ tNs (Row.mk (List.take (shL (List.length a) * 5) (List.drop 0 (gC enA a))) true (Ob.cells
  true)))) false (Ob.cells true)) ++ tNs (Row.mk (List.take (shL (List.length b) * 5) (List.drop 0 (gC enA b))) true (Ob.cells true)))) /\ True) /\ (IsA 41 (Row.mk
  (List.take (shL (List.length b) * 5) (List.drop 0 (gC enA b))) true (Ob.cells true)) (shL (List.length b)) (0 + tLn (Row.mk (List.take (shL (List.length a) * 5) (List.drop
  0 (gC enA a))) true (Ob.cells true))) /\ IsZ (Row.mk (iCells IntKind.i64 ([] ++ tNs (Row.mk (List.take (shL (List.length a) * 5) (List.drop 0 (gC enA a))) true (Ob.cells
  true)))) false (Ob.cells true)) (0 + tLn (Row.mk (List.take (shL (List.length a) * 5) (List.drop 0 (gC enA a))) true (Ob.cells true)))))))) /\ (br (tHow (Row.mk (List.take
  (shL (List.length b) * 5) (List.drop 0 (gC enA b))) true (Ob.cells true)) != (0 : Int)) (((((0 + List.length a * 5 <= List.length (gC enA a) /\ Plain (List.take
  (List.length a * 5) (List.drop 0 (gC enA a)))) /\ True) /\ ((True /\ True) /\ (True /\ IsL (Row.mk (List.take (List.length a * 5) (List.drop 0 (gC enA a))) true (Ob.cells
  true)) (List.length a))))) /\ (((((0 + shL (List.length a) * 5 <= List.length (gC enA a) /\ Plain (List.take (shL (List.length a) * 5) (List.drop 0 (gC enA a)))) /\ (True
  /\ True)) /\ ((True /\ ((True /\ True) /\ (Plain [] /\ True))) /\ ((Plain (iCells IntKind.i64 ([] ++ tNs (Row.mk (List.take (shL (List.length a) * 5) (List.drop 0 (gC enA
  a))) true (Ob.cells true)))) /\ True) /\ (IsA 41 (Row.mk (List.take (shL (List.length a) * 5) (List.drop 0 (gC enA a))) true (Ob.cells true)) (shL (List.length a)) 0 /\
  IsZ (Row.mk [] false (Ob.cells true)) 0))))) /\ (br (tOk (Row.mk (List.take (shL (List.length a) * 5) (List.drop 0 (gC enA a))) true (Ob.cells true))) (((((0 + List.length
  b * 5 <= List.length (gC enA b) /\ Plain (List.take (List.length b * 5) (List.drop 0 (gC enA b)))) /\ True) /\ ((True /\ True) /\ (True /\ IsL (Row.mk (List.take
  (List.length b * 5) (List.drop 0 (gC enA b))) true (Ob.cells true)) (List.length b))))) /\ (((((0 + shL (List.length b) * 5 <= List.length (gC enA b) /\ Plain (List.take
  (shL (List.length b) * 5) (List.drop 0 (gC enA b)))) /\ (True /\ True)) /\ ((True /\ ((True /\ True) /\ (Plain (iCells IntKind.i64 ([] ++ tNs (Row.mk (List.take (shL
  (List.length a) * 5) (List.drop 0 (gC enA a))) true (Ob.cells true)))) /\ True))) /\ ((Plain (iCells IntKind.i64 (dI (Row.mk (iCells IntKind.i64 ([] ++ tNs (Row.mk
  (List.take (shL (List.length a) * 5) (List.drop 0 (gC enA a))) true (Ob.cells true)))) false (Ob.cells true)) ++ tNs (Row.mk (List.take (shL (List.length b) * 5)
  (List.drop 0 (gC enA b))) true (Ob.cells true)))) /\ True) /\ (IsA 41 (Row.mk (List.take (shL (List.length b) * 5) (List.drop 0 (gC enA b))) true (Ob.cells true)) (shL
  (List.length b)) (0 + tLn (Row.mk (List.take (shL (List.length a) * 5) (List.drop 0 (gC enA a))) true (Ob.cells true))) /\ IsZ (Row.mk (iCells IntKind.i64 ([] ++ tNs
  (Row.mk (List.take (shL (List.length a) * 5) (List.drop 0 (gC enA a))) true (Ob.cells true)))) false (Ob.cells true)) (0 + tLn (Row.mk (List.take (shL (List.length a) * 5)
  (List.drop 0 (gC enA a))) true (Ob.cells true)))))))) /\ (br (tOk (Row.mk (List.take (shL (List.length b) * 5) (List.drop 0 (gC enA b))) true (Ob.cells true))) (((((0 + (0
  + tLn (Row.mk (List.take (shL (List.length a) * 5) (List.drop 0 (gC enA a))) true (Ob.cells true)) + tLn (Row.mk (List.take (shL (List.length b) * 5) (List.drop 0 (gC enA
  b))) true (Ob.cells true))) * 1 <= List.length (iCells IntKind.i64 (dI (Row.mk (iCells IntKind.i64 ([] ++ tNs (Row.mk (List.take (shL (List.length a) * 5) (List.drop 0 (gC
  enA a))) true (Ob.cells true)))) false (Ob.cells true)) ++ tNs (Row.mk (List.take (shL (List.length b) * 5) (List.drop 0 (gC enA b))) true (Ob.cells true)))) /\ Plain
  (List.take ((0 + tLn (Row.mk (List.take (shL (List.length a) * 5) (List.drop 0 (gC enA a))) true (Ob.cells true)) + tLn (Row.mk (List.take (shL (List.length b) * 5)
  (List.drop 0 (gC enA b))) true (Ob.cells true))) * 1) (List.drop 0 (iCells IntKind.i64 (dI (Row.mk (iCells IntKind.i64 ([] ++ tNs (Row.mk (List.take (shL (List.length a) *
  5) (List.drop 0 (gC enA a))) true (Ob.cells true)))) false (Ob.cells true)) ++ tNs (Row.mk (List.take (shL (List.length b) * 5) (List.drop 0 (gC enA b))) true (Ob.cells
  true))))))) /\ ((0 + (0 + tLn (Row.mk (List.take (shL (List.length a) * 5) (List.drop 0 (gC enA a))) true (Ob.cells true)) + tLn (Row.mk (List.take (shL (List.length b) *
  5) (List.drop 0 (gC enA b))) true (Ob.cells true))) * 1 <= List.length (iCells IntKind.i64 (dI (Row.mk (iCells IntKind.i64 ([] ++ tNs (Row.mk (List.take (shL (List.length
  a) * 5) (List.drop 0 (gC enA a))) true (Ob.cells true)))) false (Ob.cells true)) ++ tNs (Row.mk (List.take (shL (List.length b) * 5) (List.drop 0 (gC enA b))) true
  (Ob.cells true)))) /\ Plain (List.take ((0 + tLn (Row.mk (List.take (shL (List.length a) * 5) (List.drop 0 (gC enA a))) true (Ob.cells true)) + tLn (Row.mk (List.take (shL
  (List.length b) * 5) (List.drop 0 (gC enA b))) true (Ob.cells true))) * 1) (List.drop 0 (iCells IntKind.i64 (dI (Row.mk (iCells IntKind.i64 ([] ++ tNs (Row.mk (List.take
  (shL (List.length a) * 5) (List.drop 0 (gC enA a))) true (Ob.cells true)))) false (Ob.cells true)) ++ tNs (Row.mk (List.take (shL (List.length b) * 5) (List.drop 0 (gC enA
  b))) true (Ob.cells true))))))) /\ True)) /\ ((True /\ (True /\ True)) /\ (True /\ (IsQ (Row.mk (List.take ((0 + tLn (Row.mk (List.take (shL (List.length a) * 5)
  (List.drop 0 (gC enA a))) true (Ob.cells true)) + tLn (Row.mk (List.take (shL (List.length b) * 5) (List.drop 0 (gC enA b))) true (Ob.cells true))) * 1) (List.drop 0
  (iCells IntKind.i64 (dI (Row.mk (iCells IntKind.i64 ([] ++ tNs (Row.mk (List.take (shL (List.length a) * 5) (List.drop 0 (gC enA a))) true (Ob.cells true)))) false
  (Ob.cells true)) ++ tNs (Row.mk (List.take (shL (List.length b) * 5) (List.drop 0 (gC enA b))) true (Ob.cells true)))))) true (Ob.cells true)) (0 + tLn (Row.mk (List.take
  (shL (List.length a) * 5) (List.drop 0 (gC enA a))) true (Ob.cells true)) + tLn (Row.mk (List.take (shL (List.length b) * 5) (List.drop 0 (gC enA b))) true (Ob.cells
  true))) /\ IsQ (Row.mk (List.take ((0 + tLn (Row.mk (List.take (shL (List.length a) * 5) (List.drop 0 (gC enA a))) true (Ob.cells true)) + tLn (Row.mk (List.take (shL
  (List.length b) * 5) (List.drop 0 (gC enA b))) true (Ob.cells true))) * 1) (List.drop 0 (iCells IntKind.i64 (dI (Row.mk (iCells IntKind.i64 ([] ++ tNs (Row.mk (List.take
  (shL (List.length a) * 5) (List.drop 0 (gC enA a))) true (Ob.cells true)))) false (Ob.cells true)) ++ tNs (Row.mk (List.take (shL (List.length b) * 5) (List.drop 0 (gC enA
  b))) true (Ob.cells true)))))) true (Ob.cells true)) (0 + tLn (Row.mk (List.take (shL (List.length a) * 5) (List.drop 0 (gC enA a))) true (Ob.cells true)) + tLn (Row.mk
  (List.take (shL (List.length b) * 5) (List.drop 0 (gC enA b))) true (Ob.cells true)))))))) /\ (br (!sameI (Row.mk (List.take ((0 + tLn (Row.mk (List.take (shL (List.length
  a) * 5) (List.drop 0 (gC enA a))) true (Ob.cells true)) + tLn (Row.mk (List.take (shL (List.length b) * 5) (List.drop 0 (gC enA b))) true (Ob.cells true))) * 1) (List.drop
  0 (iCells IntKind.i64 (dI (Row.mk (iCells IntKind.i64 ([] ++ tNs (Row.mk (List.take (shL (List.length a) * 5) (List.drop 0 (gC enA a))) true (Ob.cells true)))) false
  (Ob.cells true)) ++ tNs (Row.mk (List.take (shL (List.length b) * 5) (List.drop 0 (gC enA b))) true (Ob.cells true)))))) true (Ob.cells true)) (Row.mk (List.take ((0 + tLn
  (Row.mk (List.take (shL (List.length a) * 5) (List.drop 0 (gC enA a))) true (Ob.cells true)) + tLn (Row.mk (List.take (shL (List.length b) * 5) (List.drop 0 (gC enA b)))
  true (Ob.cells true))) * 1) (List.drop 0 (iCells IntKind.i64 (dI (Row.mk (iCells IntKind.i64 ([] ++ tNs (Row.mk (List.take (shL (List.length a) * 5) (List.drop 0 (gC enA
  a))) true (Ob.cells true)))) false (Ob.cells true)) ++ tNs (Row.mk (List.take (shL (List.length b) * 5) (List.drop 0 (gC enA b))) true (Ob.cells true)))))) true (Ob.cells
  true))) ((true = false) /\ ((Eq (α := List Value) (gC enA a) (gC enA a)) /\ ((Plain (gC enA a)) /\ ((Eq (α := List Value) (gC enA b) (gC enA b)) /\ ((Plain (gC enA b)) /\
  True))))) (br (tHow (Row.mk (List.take (shL (List.length b) * 5) (List.drop 0 (gC enA b))) true (Ob.cells true)) == (2 : Int)) (br ((0 : Int) == tHow (Row.mk (List.take
  (shL (List.length b) * 5) (List.drop 0 (gC enA b))) true (Ob.cells true)) && ((0 : Int) == tCode (Row.mk (List.take (shL (List.length b) * 5) (List.drop 0 (gC enA b)))
  true (Ob.cells true)) && ((0 : Int) == tPos (Row.mk (List.take (shL (List.length b) * 5) (List.drop 0 (gC enA b))) true (Ob.cells true)) && true) && true)) (((True /\
  (True /\ (True /\ True)))) /\ ((true = true) /\ ((Eq (α := List Value) (gC enA a) (gC enA a)) /\ ((Plain (gC enA a)) /\ ((Eq (α := List Value) (gC enA b) (gC enA b)) /\
  ((Plain (gC enA b)) /\ True)))))) ((true = false) /\ ((Eq (α := List Value) (gC enA a) (gC enA a)) /\ ((Plain (gC enA a)) /\ ((Eq (α := List Value) (gC enA b) (gC enA b))
  /\ ((Plain (gC enA b)) /\ True)))))) (br (false == (tHow (Row.mk (List.take (shL (List.length b) * 5) (List.drop 0 (gC enA b))) true (Ob.cells true)) == (1 : Int))) (br
  ((0 : Int) == tCode (Row.mk (List.take (shL (List.length b) * 5) (List.drop 0 (gC enA b))) true (Ob.cells true)) && ((0 : Int) == tPos (Row.mk (List.take (shL (List.length
  b) * 5) (List.drop 0 (gC enA b))) true (Ob.cells true)) && true)) (((True /\ (True /\ (True /\ True)))) /\ ((true = true) /\ ((Eq (α := List Value) (gC enA a) (gC enA a))
  /\ ((Plain (gC enA a)) /\ ((Eq (α := List Value) (gC enA b) (gC enA b)) /\ ((Plain (gC enA b)) /\ True)))))) ((true = false) /\ ((Eq (α := List Value) (gC enA a) (gC enA
  a)) /\ ((Plain (gC enA a)) /\ ((Eq (α := List Value) (gC enA b) (gC enA b)) /\ ((Plain (gC enA b)) /\ True)))))) ((true = false) /\ ((Eq (α := List Value) (gC enA a) (gC
  enA a)) /\ ((Plain (gC enA a)) /\ ((Eq (α := List Value) (gC enA b) (gC enA b)) /\ ((Plain (gC enA b)) /\ True))))))))) (br (tRt (Row.mk (List.take (shL (List.length b) *
  5) (List.drop 0 (gC enA b))) true (Ob.cells true))) ((noGo (PanicEntry.mk (Value.iface 10 (Value.string dS)) true false :: reps 10 dS (Int.toNat (tDep (Row.mk (List.take
  (shL (List.length b) * 5) (List.drop 0 (gC enA b))) true (Ob.cells true))))) = true) /\ (((((0 + (0 + tLn (Row.mk (List.take (shL (List.length a) * 5) (List.drop 0 (gC enA
  a))) true (Ob.cells true)) + tLn (Row.mk (List.take (shL (List.length b) * 5) (List.drop 0 (gC enA b))) true (Ob.cells true))) * 1 <= List.length (iCells IntKind.i64 (dI
  (Row.mk (iCells IntKind.i64 ([] ++ tNs (Row.mk (List.take (shL (List.length a) * 5) (List.drop 0 (gC enA a))) true (Ob.cells true)))) false (Ob.cells true)) ++ tNs (Row.mk
  (List.take (shL (List.length b) * 5) (List.drop 0 (gC enA b))) true (Ob.cells true)))) /\ Plain (List.take ((0 + tLn (Row.mk (List.take (shL (List.length a) * 5)
  (List.drop 0 (gC enA a))) true (Ob.cells true)) + tLn (Row.mk (List.take (shL (List.length b) * 5) (List.drop 0 (gC enA b))) true (Ob.cells true))) * 1) (List.drop 0
  (iCells IntKind.i64 (dI (Row.mk (iCells IntKind.i64 ([] ++ tNs (Row.mk (List.take (shL (List.length a) * 5) (List.drop 0 (gC enA a))) true (Ob.cells true)))) false
  (Ob.cells true)) ++ tNs (Row.mk (List.take (shL (List.length b) * 5) (List.drop 0 (gC enA b))) true (Ob.cells true))))))) /\ ((0 + (0 + tLn (Row.mk (List.take (shL
  (List.length a) * 5) (List.drop 0 (gC enA a))) true (Ob.cells true)) + tLn (Row.mk (List.take (shL (List.length b) * 5) (List.drop 0 (gC enA b))) true (Ob.cells true))) *
  1 <= List.length (iCells IntKind.i64 (dI (Row.mk (iCells IntKind.i64 ([] ++ tNs (Row.mk (List.take (shL (List.length a) * 5) (List.drop 0 (gC enA a))) true (Ob.cells
  true)))) false (Ob.cells true)) ++ tNs (Row.mk (List.take (shL (List.length b) * 5) (List.drop 0 (gC enA b))) true (Ob.cells true)))) /\ Plain (List.take ((0 + tLn (Row.mk
  (List.take (shL (List.length a) * 5) (List.drop 0 (gC enA a))) true (Ob.cells true)) + tLn (Row.mk (List.take (shL (List.length b) * 5) (List.drop 0 (gC enA b))) true
  (Ob.cells true))) * 1) (List.drop 0 (iCells IntKind.i64 (dI (Row.mk (iCells IntKind.i64 ([] ++ tNs (Row.mk (List.take (shL (List.length a) * 5) (List.drop 0 (gC enA a)))
  true (Ob.cells true)))) false (Ob.cells true)) ++ tNs (Row.mk (List.take (shL (List.length b) * 5) (List.drop 0 (gC enA b))) true (Ob.cells true))))))) /\ True)) /\ ((True
  /\ (True /\ True)) /\ (True /\ (IsQ (Row.mk (List.take ((0 + tLn (Row.mk (List.take (shL (List.length a) * 5) (List.drop 0 (gC enA a))) true (Ob.cells true)) + tLn (Row.mk
  (List.take (shL (List.length b) * 5) (List.drop 0 (gC enA b))) true (Ob.cells true))) * 1) (List.drop 0 (iCells IntKind.i64 (dI (Row.mk (iCells IntKind.i64 ([] ++ tNs
  (Row.mk (List.take (shL (List.length a) * 5) (List.drop 0 (gC enA a))) true (Ob.cells true)))) false (Ob.cells true)) ++ tNs (Row.mk (List.take (shL (List.length b) * 5)
  (List.drop 0 (gC enA b))) true (Ob.cells true)))))) true (Ob.cells true)) (0 + tLn (Row.mk (List.take (shL (List.length a) * 5) (List.drop 0 (gC enA a))) true (Ob.cells
  true)) + tLn (Row.mk (List.take (shL (List.length b) * 5) (List.drop 0 (gC enA b))) true (Ob.cells true))) /\ IsQ (Row.mk (List.take ((0 + tLn (Row.mk (List.take (shL
  (List.length a) * 5) (List.drop 0 (gC enA a))) true (Ob.cells true)) + tLn (Row.mk (List.take (shL (List.length b) * 5) (List.drop 0 (gC enA b))) true (Ob.cells true))) *
  1) (List.drop 0 (iCells IntKind.i64 (dI (Row.mk (iCells IntKind.i64 ([] ++ tNs (Row.mk (List.take (shL (List.length a) * 5) (List.drop 0 (gC enA a))) true (Ob.cells
  true)))) false (Ob.cells true)) ++ tNs (Row.mk (List.take (shL (List.length b) * 5) (List.drop 0 (gC enA b))) true (Ob.cells true)))))) true (Ob.cells true)) (0 + tLn
  (Row.mk (List.take (shL (List.length a) * 5) (List.drop 0 (gC enA a))) true (Ob.cells true)) + tLn (Row.mk (List.take (shL (List.length b) * 5) (List.drop 0 (gC enA b)))
  true (Ob.cells true)))))))) /\ (br (!sameI (Row.mk (List.take ((0 + tLn (Row.mk (List.take (shL (List.length a) * 5) (List.drop 0 (gC enA a))) true (Ob.cells true)) + tLn
  (Row.mk (List.take (shL (List.length b) * 5) (List.drop 0 (gC enA b))) true (Ob.cells true))) * 1) (List.drop 0 (iCells IntKind.i64 (dI (Row.mk (iCells IntKind.i64 ([] ++
  tNs (Row.mk (List.take (shL (List.length a) * 5) (List.drop 0 (gC enA a))) true (Ob.cells true)))) false (Ob.cells true)) ++ tNs (Row.mk (List.take (shL (List.length b) *
  5) (List.drop 0 (gC enA b))) true (Ob.cells true)))))) true (Ob.cells true)) (Row.mk (List.take ((0 + tLn (Row.mk (List.take (shL (List.length a) * 5) (List.drop 0 (gC enA
  a))) true (Ob.cells true)) + tLn (Row.mk (List.take (shL (List.length b) * 5) (List.drop 0 (gC enA b))) true (Ob.cells true))) * 1) (List.drop 0 (iCells IntKind.i64 (dI
  (Row.mk (iCells IntKind.i64 ([] ++ tNs (Row.mk (List.take (shL (List.length a) * 5) (List.drop 0 (gC enA a))) true (Ob.cells true)))) false (Ob.cells true)) ++ tNs (Row.mk
  (List.take (shL (List.length b) * 5) (List.drop 0 (gC enA b))) true (Ob.cells true)))))) true (Ob.cells true))) ((true = false) /\ ((Eq (α := List Value) (gC enA a) (gC
  enA a)) /\ ((Plain (gC enA a)) /\ ((Eq (α := List Value) (gC enA b) (gC enA b)) /\ ((Plain (gC enA b)) /\ True))))) (br (tHow (Row.mk (List.take (shL (List.length b) * 5)
  (List.drop 0 (gC enA b))) true (Ob.cells true)) == (2 : Int)) (br ((2 : Int) == tHow (Row.mk (List.take (shL (List.length b) * 5) (List.drop 0 (gC enA b))) true (Ob.cells
  true)) && ((0 : Int) == tCode (Row.mk (List.take (shL (List.length b) * 5) (List.drop 0 (gC enA b))) true (Ob.cells true)) && ((0 : Int) == tPos (Row.mk (List.take (shL
  (List.length b) * 5) (List.drop 0 (gC enA b))) true (Ob.cells true)) && true) && true)) (((True /\ (True /\ (True /\ True)))) /\ ((true = true) /\ ((Eq (α := List Value)
  (gC enA a) (gC enA a)) /\ ((Plain (gC enA a)) /\ ((Eq (α := List Value) (gC enA b) (gC enA b)) /\ ((Plain (gC enA b)) /\ True)))))) ((true = false) /\ ((Eq (α := List
  Value) (gC enA a) (gC enA a)) /\ ((Plain (gC enA a)) /\ ((Eq (α := List Value) (gC enA b) (gC enA b)) /\ ((Plain (gC enA b)) /\ True)))))) ((true = false) /\ ((Eq (α :=
  List Value) (gC enA a) (gC enA a)) /\ ((Plain (gC enA a)) /\ ((Eq (α := List Value) (gC enA b) (gC enA b)) /\ ((Plain (gC enA b)) /\ True))))))))) ((true = true) /\ (((((0
  + (0 + tLn (Row.mk (List.take (shL (List.length a) * 5) (List.drop 0 (gC enA a))) true (Ob.cells true)) + tLn (Row.mk (List.take (shL (List.length b) * 5) (List.drop 0 (gC
  enA b))) true (Ob.cells true))) * 1 <= List.length (iCells IntKind.i64 (dI (Row.mk (iCells IntKind.i64 ([] ++ tNs (Row.mk (List.take (shL (List.length a) * 5) (List.drop 0
  (gC enA a))) true (Ob.cells true)))) false (Ob.cells true)) ++ tNs (Row.mk (List.take (shL (List.length b) * 5) (List.drop 0 (gC enA b))) true (Ob.cells true)))) /\ Plain
  (List.take ((0 + tLn (Row.mk (List.take (shL (List.length a) * 5) (List.drop 0 (gC enA a))) true (Ob.cells true)) + tLn (Row.mk (List.take (shL (List.length b) * 5)
  (List.drop 0 (gC enA b))) true (Ob.cells true))) * 1) (List.drop 0 (iCells IntKind.i64 (dI (Row.mk (iCells IntKind.i64 ([] ++ tNs (Row.mk (List.take (shL (List.length a) *
  5) (List.drop 0 (gC enA a))) true (Ob.cells true)))) false (Ob.cells true)) ++ tNs (Row.mk (List.take (shL (List.length b) * 5) (List.drop 0 (gC enA b))) true (Ob.cells
  true))))))) /\ ((0 + (0 + tLn (Row.mk (List.take (shL (List.length a) * 5) (List.drop 0 (gC enA a))) true (Ob.cells true)) + tLn (Row.mk (List.take (shL (List.length b) *
  5) (List.drop 0 (gC enA b))) true (Ob.cells true))) * 1 <= List.length (iCells IntKind.i64 (dI (Row.mk (iCells IntKind.i64 ([] ++ tNs (Row.mk (List.take (shL (List.length
  a) * 5) (List.drop 0 (gC enA a))) true (Ob.cells true)))) false (Ob.cells true)) ++ tNs (Row.mk (List.take (shL (List.length b) * 5) (List.drop 0 (gC enA b))) true
  (Ob.cells true)))) /\ Plain (List.take ((0 + tLn (Row.mk (List.take (shL (List.length a) * 5) (List.drop 0 (gC enA a))) true (Ob.cells true)) + tLn (Row.mk (List.take (shL
  (List.length b) * 5) (List.drop 0 (gC enA b))) true (Ob.cells true))) * 1) (List.drop 0 (iCells IntKind.i64 (dI (Row.mk (iCells IntKind.i64 ([] ++ tNs (Row.mk (List.take
  (shL (List.length a) * 5) (List.drop 0 (gC enA a))) true (Ob.cells true)))) false (Ob.cells true)) ++ tNs (Row.mk (List.take (shL (List.length b) * 5) (List.drop 0 (gC enA
  b))) true (Ob.cells true))))))) /\ True)) /\ ((True /\ (True /\ True)) /\ (True /\ (IsQ (Row.mk (List.take ((0 + tLn (Row.mk (List.take (shL (List.length a) * 5)
  (List.drop 0 (gC enA a))) true (Ob.cells true)) + tLn (Row.mk (List.take (shL (List.length b) * 5) (List.drop 0 (gC enA b))) true (Ob.cells true))) * 1) (List.drop 0
  (iCells IntKind.i64 (dI (Row.mk (iCells IntKind.i64 ([] ++ tNs (Row.mk (List.take (shL (List.length a) * 5) (List.drop 0 (gC enA a))) true (Ob.cells true)))) false
  (Ob.cells true)) ++ tNs (Row.mk (List.take (shL (List.length b) * 5) (List.drop 0 (gC enA b))) true (Ob.cells true)))))) true (Ob.cells true)) (0 + tLn (Row.mk (List.take
  (shL (List.length a) * 5) (List.drop 0 (gC enA a))) true (Ob.cells true)) + tLn (Row.mk (List.take (shL (List.length b) * 5) (List.drop 0 (gC enA b))) true (Ob.cells
  true))) /\ IsQ (Row.mk (List.take ((0 + tLn (Row.mk (List.take (shL (List.length a) * 5) (List.drop 0 (gC enA a))) true (Ob.cells true)) + tLn (Row.mk (List.take (shL
  (List.length b) * 5) (List.drop 0 (gC enA b))) true (Ob.cells true))) * 1) (List.drop 0 (iCells IntKind.i64 (dI (Row.mk (iCells IntKind.i64 ([] ++ tNs (Row.mk (List.take
  (shL (List.length a) * 5) (List.drop 0 (gC enA a))) true (Ob.cells true)))) false (Ob.cells true)) ++ tNs (Row.mk (List.take (shL (List.length b) * 5) (List.drop 0 (gC enA
  b))) true (Ob.cells true)))))) true (Ob.cells true)) (0 + tLn (Row.mk (List.take (shL (List.length a) * 5) (List.drop 0 (gC enA a))) true (Ob.cells true)) + tLn (Row.mk
  (List.take (shL (List.length b) * 5) (List.drop 0 (gC enA b))) true (Ob.cells true)))))))) /\ (br (!sameI (Row.mk (List.take ((0 + tLn (Row.mk (List.take (shL (List.length
  a) * 5) (List.drop 0 (gC enA a))) true (Ob.cells true)) + tLn (Row.mk (List.take (shL (List.length b) * 5) (List.drop 0 (gC enA b))) true (Ob.cells true))) * 1) (List.drop
  0 (iCells IntKind.i64 (dI (Row.mk (iCells IntKind.i64 ([] ++ tNs (Row.mk (List.take (shL (List.length a) * 5) (List.drop 0 (gC enA a))) true (Ob.cells true)))) false
  (Ob.cells true)) ++ tNs (Row.mk (List.take (shL (List.length b) * 5) (List.drop 0 (gC enA b))) true (Ob.cells true)))))) true (Ob.cells true)) (Row.mk (List.take ((0 + tLn
  (Row.mk (List.take (shL (List.length a) * 5) (List.drop 0 (gC enA a))) true (Ob.cells true)) + tLn (Row.mk (List.take (shL (List.length b) * 5) (List.drop 0 (gC enA b)))
  true (Ob.cells true))) * 1) (List.drop 0 (iCells IntKind.i64 (dI (Row.mk (iCells IntKind.i64 ([] ++ tNs (Row.mk (List.take (shL (List.length a) * 5) (List.drop 0 (gC enA
  a))) true (Ob.cells true)))) false (Ob.cells true)) ++ tNs (Row.mk (List.take (shL (List.length b) * 5) (List.drop 0 (gC enA b))) true (Ob.cells true)))))) true (Ob.cells
  true))) ((true = false) /\ ((Eq (α := List Value) (gC enA a) (gC enA a)) /\ ((Plain (gC enA a)) /\ ((Eq (α := List Value) (gC enA b) (gC enA b)) /\ ((Plain (gC enA b)) /\
  True))))) (br (tHow (Row.mk (List.take (shL (List.length b) * 5) (List.drop 0 (gC enA b))) true (Ob.cells true)) == (2 : Int)) (br ((0 : Int) == tHow (Row.mk (List.take
  (shL (List.length b) * 5) (List.drop 0 (gC enA b))) true (Ob.cells true)) && ((0 : Int) == tCode (Row.mk (List.take (shL (List.length b) * 5) (List.drop 0 (gC enA b)))
  true (Ob.cells true)) && ((0 : Int) == tPos (Row.mk (List.take (shL (List.length b) * 5) (List.drop 0 (gC enA b))) true (Ob.cells true)) && true) && true)) (((True /\
  (True /\ (True /\ True)))) /\ ((true = true) /\ ((Eq (α := List Value) (gC enA a) (gC enA a)) /\ ((Plain (gC enA a)) /\ ((Eq (α := List Value) (gC enA b) (gC enA b)) /\
  ((Plain (gC enA b)) /\ True)))))) ((true = false) /\ ((Eq (α := List Value) (gC enA a) (gC enA a)) /\ ((Plain (gC enA a)) /\ ((Eq (α := List Value) (gC enA b) (gC enA b))
  /\ ((Plain (gC enA b)) /\ True)))))) (br (true == (tHow (Row.mk (List.take (shL (List.length b) * 5) (List.drop 0 (gC enA b))) true (Ob.cells true)) == (1 : Int))) (br
  (tCode (Row.mk (List.take (shL (List.length b) * 5) (List.drop 0 (gC enA b))) true (Ob.cells true)) == tCode (Row.mk (List.take (shL (List.length b) * 5) (List.drop 0 (gC
  enA b))) true (Ob.cells true)) && (tPos (Row.mk (List.take (shL (List.length b) * 5) (List.drop 0 (gC enA b))) true (Ob.cells true)) == tPos (Row.mk (List.take (shL
  (List.length b) * 5) (List.drop 0 (gC enA b))) true (Ob.cells true)) && true)) (((True /\ (True /\ (True /\ True)))) /\ ((true = true) /\ ((Eq (α := List Value) (gC enA a)
  (gC enA a)) /\ ((Plain (gC enA a)) /\ ((Eq (α := List Value) (gC enA b) (gC enA b)) /\ ((Plain (gC enA b)) /\ True)))))) ((true = false) /\ ((Eq (α := List Value) (gC enA
  a) (gC enA a)) /\ ((Plain (gC enA a)) /\ ((Eq (α := List Value) (gC enA b) (gC enA b)) /\ ((Plain (gC enA b)) /\ True)))))) ((true = false) /\ ((Eq (α := List Value) (gC
  enA a) (gC enA a)) /\ ((Plain (gC enA a)) /\ ((Eq (α := List Value) (gC enA b) (gC enA b)) /\ ((Plain (gC enA b)) /\ True)))))))))))))) (br (tRt (Row.mk (List.take (shL
  (List.length a) * 5) (List.drop 0 (gC enA a))) true (Ob.cells true))) (((((0 + List.length b * 5 <= List.length (gC enA b) /\ Plain (List.take (List.length b * 5)
  (List.drop 0 (gC enA b)))) /\ True) /\ ((True /\ True) /\ (True /\ IsL (Row.mk (List.take (List.length b * 5) (List.drop 0 (gC enA b))) true (Ob.cells true)) (List.length
  b))))) /\ (((((0 + shL (List.length b) * 5 <= List.length (gC enA b) /\ Plain (List.take (shL (List.length b) * 5) (List.drop 0 (gC enA b)))) /\ (True /\ True)) /\ ((True
  /\ ((True /\ True) /\ (Plain (iCells IntKind.i64 ([] ++ tNs (Row.mk (List.take (shL (List.length a) * 5) (List.drop 0 (gC enA a))) true (Ob.cells true)))) /\ True))) /\
  ((Plain (iCells IntKind.i64 (dI (Row.mk (iCells IntKind.i64 ([] ++ tNs (Row.mk (List.take (shL (List.length a) * 5) (List.drop 0 (gC enA a))) true (Ob.cells true)))) false
  (Ob.cells true)) ++ tNs (Row.mk (List.take (shL (List.length b) * 5) (List.drop 0 (gC enA b))) true (Ob.cells true)))) /\ True) /\ (IsA 41 (Row.mk (List.take (shL
  (List.length b) * 5) (List.drop 0 (gC enA b))) true (Ob.cells true)) (shL (List.length b)) (0 + tLn (Row.mk (List.take (shL (List.length a) * 5) (List.drop 0 (gC enA a)))
  true (Ob.cells true))) /\ IsZ (Row.mk (iCells IntKind.i64 ([] ++ tNs (Row.mk (List.take (shL (List.length a) * 5) (List.drop 0 (gC enA a))) true (Ob.cells true)))) false
  (Ob.cells true)) (0 + tLn (Row.mk (List.take (shL (List.length a) * 5) (List.drop 0 (gC enA a))) true (Ob.cells true)))))))) /\ (br (tOk (Row.mk (List.take (shL
  (List.length b) * 5) (List.drop 0 (gC enA b))) true (Ob.cells true))) ((noGo (PanicEntry.mk (Value.iface 10 (Value.string dS)) true false :: reps 10 dS (Int.toNat (tDep
  (Row.mk (List.take (shL (List.length a) * 5) (List.drop 0 (gC enA a))) true (Ob.cells true))))) = true) /\ (((((0 + (0 + tLn (Row.mk (List.take (shL (List.length a) * 5)
  (List.drop 0 (gC enA a))) true (Ob.cells true)) + tLn (Row.mk (List.take (shL (List.length b) * 5) (List.drop 0 (gC enA b))) true (Ob.cells true))) * 1 <= List.length
  (iCells IntKind.i64 (dI (Row.mk (iCells IntKind.i64 ([] ++ tNs (Row.mk (List.take (shL (List.length a) * 5) (List.drop 0 (gC enA a))) true (Ob.cells true)))) false
  (Ob.cells true)) ++ tNs (Row.mk (List.take (shL (List.length b) * 5) (List.drop 0 (gC enA b))) true (Ob.cells true)))) /\ Plain (List.take ((0 + tLn (Row.mk (List.take
  (shL (List.length a) * 5) (List.drop 0 (gC enA a))) true (Ob.cells true)) + tLn (Row.mk (List.take (shL (List.length b) * 5) (List.drop 0 (gC enA b))) true (Ob.cells
  true))) * 1) (List.drop 0 (iCells IntKind.i64 (dI (Row.mk (iCells IntKind.i64 ([] ++ tNs (Row.mk (List.take (shL (List.length a) * 5) (List.drop 0 (gC enA a))) true
  (Ob.cells true)))) false (Ob.cells true)) ++ tNs (Row.mk (List.take (shL (List.length b) * 5) (List.drop 0 (gC enA b))) true (Ob.cells true))))))) /\ ((0 + (0 + tLn
  (Row.mk (List.take (shL (List.length a) * 5) (List.drop 0 (gC enA a))) true (Ob.cells true)) + tLn (Row.mk (List.take (shL (List.length b) * 5) (List.drop 0 (gC enA b)))
  true (Ob.cells true))) * 1 <= List.length (iCells IntKind.i64 (dI (Row.mk (iCells IntKind.i64 ([] ++ tNs (Row.mk (List.take (shL (List.length a) * 5) (List.drop 0 (gC enA
  a))) true (Ob.cells true)))) false (Ob.cells true)) ++ tNs (Row.mk (List.take (shL (List.length b) * 5) (List.drop 0 (gC enA b))) true (Ob.cells true)))) /\ Plain
  (List.take ((0 + tLn (Row.mk (List.take (shL (List.length a) * 5) (List.drop 0 (gC enA a))) true (Ob.cells true)) + tLn (Row.mk (List.take (shL (List.length b) * 5)
  (List.drop 0 (gC enA b))) true (Ob.cells true))) * 1) (List.drop 0 (iCells IntKind.i64 (dI (Row.mk (iCells IntKind.i64 ([] ++ tNs (Row.mk (List.take (shL (List.length a) *
  5) (List.drop 0 (gC enA a))) true (Ob.cells true)))) false (Ob.cells true)) ++ tNs (Row.mk (List.take (shL (List.length b) * 5) (List.drop 0 (gC enA b))) true (Ob.cells
  true))))))) /\ True)) /\ ((True /\ (True /\ True)) /\ (True /\ (IsQ (Row.mk (List.take ((0 + tLn (Row.mk (List.take (shL (List.length a) * 5) (List.drop 0 (gC enA a)))
  true (Ob.cells true)) + tLn (Row.mk (List.take (shL (List.length b) * 5) (List.drop 0 (gC enA b))) true (Ob.cells true))) * 1) (List.drop 0 (iCells IntKind.i64 (dI (Row.mk
  (iCells IntKind.i64 ([] ++ tNs (Row.mk (List.take (shL (List.length a) * 5) (List.drop 0 (gC enA a))) true (Ob.cells true)))) false (Ob.cells true)) ++ tNs (Row.mk
  (List.take (shL (List.length b) * 5) (List.drop 0 (gC enA b))) true (Ob.cells true)))))) true (Ob.cells true)) (0 + tLn (Row.mk (List.take (shL (List.length a) * 5)
  (List.drop 0 (gC enA a))) true (Ob.cells true)) + tLn (Row.mk (List.take (shL (List.length b) * 5) (List.drop 0 (gC enA b))) true (Ob.cells true))) /\ IsQ (Row.mk
  (List.take ((0 + tLn (Row.mk (List.take (shL (List.length a) * 5) (List.drop 0 (gC enA a))) true (Ob.cells true)) + tLn (Row.mk (List.take (shL (List.length b) * 5)
  (List.drop 0 (gC enA b))) true (Ob.cells true))) * 1) (List.drop 0 (iCells IntKind.i64 (dI (Row.mk (iCells IntKind.i64 ([] ++ tNs (Row.mk (List.take (shL (List.length a) *
  5) (List.drop 0 (gC enA a))) true (Ob.cells true)))) false (Ob.cells true)) ++ tNs (Row.mk (List.take (shL (List.length b) * 5) (List.drop 0 (gC enA b))) true (Ob.cells
  true)))))) true (Ob.cells true)) (0 + tLn (Row.mk (List.take (shL (List.length a) * 5) (List.drop 0 (gC enA a))) true (Ob.cells true)) + tLn (Row.mk (List.take (shL
  (List.length b) * 5) (List.drop 0 (gC enA b))) true (Ob.cells true)))))))) /\ (br (!sameI (Row.mk (List.take ((0 + tLn (Row.mk (List.take (shL (List.length a) * 5)
  (List.drop 0 (gC enA a))) true (Ob.cells true)) + tLn (Row.mk (List.take (shL (List.length b) * 5) (List.drop 0 (gC enA b))) true (Ob.cells true))) * 1) (List.drop 0
  (iCells IntKind.i64 (dI (Row.mk (iCells IntKind.i64 ([] ++ tNs (Row.mk (List.take (shL (List.length a) * 5) (List.drop 0 (gC enA a))) true (Ob.cells true)))) false
  (Ob.cells true)) ++ tNs (Row.mk (List.take (shL (List.length b) * 5) (List.drop 0 (gC enA b))) true (Ob.cells true)))))) true (Ob.cells true)) (Row.mk (List.take ((0 + tLn
  (Row.mk (List.take (shL (List.length a) * 5) (List.drop 0 (gC enA a))) true (Ob.cells true)) + tLn (Row.mk (List.take (shL (List.length b) * 5) (List.drop 0 (gC enA b)))
  true (Ob.cells true))) * 1) (List.drop 0 (iCells IntKind.i64 (dI (Row.mk (iCells IntKind.i64 ([] ++ tNs (Row.mk (List.take (shL (List.length a) * 5) (List.drop 0 (gC enA
  a))) true (Ob.cells true)))) false (Ob.cells true)) ++ tNs (Row.mk (List.take (shL (List.length b) * 5) (List.drop 0 (gC enA b))) true (Ob.cells true)))))) true (Ob.cells
  true))) ((true = false) /\ ((Eq (α := List Value) (gC enA a) (gC enA a)) /\ ((Plain (gC enA a)) /\ ((Eq (α := List Value) (gC enA b) (gC enA b)) /\ ((Plain (gC enA b)) /\
  True))))) (br (tHow (Row.mk (List.take (shL (List.length b) * 5) (List.drop 0 (gC enA b))) true (Ob.cells true)) == (2 : Int)) (br ((2 : Int) == tHow (Row.mk (List.take
  (shL (List.length b) * 5) (List.drop 0 (gC enA b))) true (Ob.cells true)) && ((0 : Int) == tCode (Row.mk (List.take (shL (List.length b) * 5) (List.drop 0 (gC enA b)))
  true (Ob.cells true)) && ((0 : Int) == tPos (Row.mk (List.take (shL (List.length b) * 5) (List.drop 0 (gC enA b))) true (Ob.cells true)) && true) && true)) (((True /\
  (True /\ (True /\ True)))) /\ ((true = true) /\ ((Eq (α := List Value) (gC enA a) (gC enA a)) /\ ((Plain (gC enA a)) /\ ((Eq (α := List Value) (gC enA b) (gC enA b)) /\
  ((Plain (gC enA b)) /\ True)))))) ((true = false) /\ ((Eq (α := List Value) (gC enA a) (gC enA a)) /\ ((Plain (gC enA a)) /\ ((Eq (α := List Value) (gC enA b) (gC enA b))
  /\ ((Plain (gC enA b)) /\ True)))))) ((true = false) /\ ((Eq (α := List Value) (gC enA a) (gC enA a)) /\ ((Plain (gC enA a)) /\ ((Eq (α := List Value) (gC enA b) (gC enA
  b)) /\ ((Plain (gC enA b)) /\ True))))))))) (br (tRt (Row.mk (List.take (shL (List.length b) * 5) (List.drop 0 (gC enA b))) true (Ob.cells true))) ((noGo (PanicEntry.mk
  (Value.iface 10 (Value.string dS)) true false :: (reps 10 dS (Int.toNat (tDep (Row.mk (List.take (shL (List.length b) * 5) (List.drop 0 (gC enA b))) true (Ob.cells
  true)))) ++ PanicEntry.mk (Value.iface 10 (Value.string dS)) false false :: reps 10 dS (Int.toNat (tDep (Row.mk (List.take (shL (List.length a) * 5) (List.drop 0 (gC enA
  a))) true (Ob.cells true)))))) = true) /\ (((((0 + (0 + tLn (Row.mk (List.take (shL (List.length a) * 5) (List.drop 0 (gC enA a))) true (Ob.cells true)) + tLn (Row.mk
  (List.take (shL (List.length b) * 5) (List.drop 0 (gC enA b))) true (Ob.cells true))) * 1 <= List.length (iCells IntKind.i64 (dI (Row.mk (iCells IntKind.i64 ([] ++ tNs
  (Row.mk (List.take (shL (List.length a) * 5) (List.drop 0 (gC enA a))) true (Ob.cells true)))) false (Ob.cells true)) ++ tNs (Row.mk (List.take (shL (List.length b) * 5)
  (List.drop 0 (gC enA b))) true (Ob.cells true)))) /\ Plain (List.take ((0 + tLn (Row.mk (List.take (shL (List.length a) * 5) (List.drop 0 (gC enA a))) true (Ob.cells
  true)) + tLn (Row.mk (List.take (shL (List.length b) * 5) (List.drop 0 (gC enA b))) true (Ob.cells true))) * 1) (List.drop 0 (iCells IntKind.i64 (dI (Row.mk (iCells
  IntKind.i64 ([] ++ tNs (Row.mk (List.take (shL (List.length a) * 5) (List.drop 0 (gC enA a))) true (Ob.cells true)))) false (Ob.cells true)) ++ tNs (Row.mk (List.take (shL
  (List.length b) * 5) (List.drop 0 (gC enA b))) true (Ob.cells true))))))) /\ ((0 + (0 + tLn (Row.mk (List.take (shL (List.length a) * 5) (List.drop 0 (gC enA a))) true
  (Ob.cells true)) + tLn (Row.mk (List.take (shL (List.length b) * 5) (List.drop 0 (gC enA b))) true (Ob.cells true))) * 1 <= List.length (iCells IntKind.i64 (dI (Row.mk
  (iCells IntKind.i64 ([] ++ tNs (Row.mk (List.take (shL (List.length a) * 5) (List.drop 0 (gC enA a))) true (Ob.cells true)))) false (Ob.cells true)) ++ tNs (Row.mk
  (List.take (shL (List.length b) * 5) (List.drop 0 (gC enA b))) true (Ob.cells true)))) /\ Plain (List.take ((0 + tLn (Row.mk (List.take (shL (List.length a) * 5)
  (List.drop 0 (gC enA a))) true (Ob.cells true)) + tLn (Row.mk (List.take (shL (List.length b) * 5) (List.drop 0 (gC enA b))) true (Ob.cells true))) * 1) (List.drop 0
  (iCells IntKind.i64 (dI (Row.mk (iCells IntKind.i64 ([] ++ tNs (Row.mk (List.take (shL (List.length a) * 5) (List.drop 0 (gC enA a))) true (Ob.cells true)))) false
  (Ob.cells true)) ++ tNs (Row.mk (List.take (shL (List.length b) * 5) (List.drop 0 (gC enA b))) true (Ob.cells true))))))) /\ True)) /\ ((True /\ (True /\ True)) /\ (True
  /\ (IsQ (Row.mk (List.take ((0 + tLn (Row.mk (List.take (shL (List.length a) * 5) (List.drop 0 (gC enA a))) true (Ob.cells true)) + tLn (Row.mk (List.take (shL
  (List.length b) * 5) (List.drop 0 (gC enA b))) true (Ob.cells true))) * 1) (List.drop 0 (iCells IntKind.i64 (dI (Row.mk (iCells IntKind.i64 ([] ++ tNs (Row.mk (List.take
  (shL (List.length a) * 5) (List.drop 0 (gC enA a))) true (Ob.cells true)))) false (Ob.cells true)) ++ tNs (Row.mk (List.take (shL (List.length b) * 5) (List.drop 0 (gC enA
  b))) true (Ob.cells true)))))) true (Ob.cells true)) (0 + tLn (Row.mk (List.take (shL (List.length a) * 5) (List.drop 0 (gC enA a))) true (Ob.cells true)) + tLn (Row.mk
  (List.take (shL (List.length b) * 5) (List.drop 0 (gC enA b))) true (Ob.cells true))) /\ IsQ (Row.mk (List.take ((0 + tLn (Row.mk (List.take (shL (List.length a) * 5)
  (List.drop 0 (gC enA a))) true (Ob.cells true)) + tLn (Row.mk (List.take (shL (List.length b) * 5) (List.drop 0 (gC enA b))) true (Ob.cells true))) * 1) (List.drop 0
  (iCells IntKind.i64 (dI (Row.mk (iCells IntKind.i64 ([] ++ tNs (Row.mk (List.take (shL (List.length a) * 5) (List.drop 0 (gC enA a))) true (Ob.cells true)))) false
  (Ob.cells true)) ++ tNs (Row.mk (List.take (shL (List.length b) * 5) (List.drop 0 (gC enA b))) true (Ob.cells true)))))) true (Ob.cells true)) (0 + tLn (Row.mk (List.take
  (shL (List.length a) * 5) (List.drop 0 (gC enA a))) true (Ob.cells true)) + tLn (Row.mk (List.take (shL (List.length b) * 5) (List.drop 0 (gC enA b))) true (Ob.cells
  true)))))))) /\ (br (!sameI (Row.mk (List.take ((0 + tLn (Row.mk (List.take (shL (List.length a) * 5) (List.drop 0 (gC enA a))) true (Ob.cells true)) + tLn (Row.mk
  (List.take (shL (List.length b) * 5) (List.drop 0 (gC enA b))) true (Ob.cells true))) * 1) (List.drop 0 (iCells IntKind.i64 (dI (Row.mk (iCells IntKind.i64 ([] ++ tNs
  (Row.mk (List.take (shL (List.length a) * 5) (List.drop 0 (gC enA a))) true (Ob.cells true)))) false (Ob.cells true)) ++ tNs (Row.mk (List.take (shL (List.length b) * 5)
  (List.drop 0 (gC enA b))) true (Ob.cells true)))))) true (Ob.cells true)) (Row.mk (List.take ((0 + tLn (Row.mk (List.take (shL (List.length a) * 5) (List.drop 0 (gC enA
  a))) true (Ob.cells true)) + tLn (Row.mk (List.take (shL (List.length b) * 5) (List.drop 0 (gC enA b))) true (Ob.cells true))) * 1) (List.drop 0 (iCells IntKind.i64 (dI
  (Row.mk (iCells IntKind.i64 ([] ++ tNs (Row.mk (List.take (shL (List.length a) * 5) (List.drop 0 (gC enA a))) true (Ob.cells true)))) false (Ob.cells true)) ++ tNs (Row.mk
  (List.take (shL (List.length b) * 5) (List.drop 0 (gC enA b))) true (Ob.cells true)))))) true (Ob.cells true))) ((true = false) /\ ((Eq (α := List Value) (gC enA a) (gC
  enA a)) /\ ((Plain (gC enA a)) /\ ((Eq (α := List Value) (gC enA b) (gC enA b)) /\ ((Plain (gC enA b)) /\ True))))) (br (tHow (Row.mk (List.take (shL (List.length b) * 5)
  (List.drop 0 (gC enA b))) true (Ob.cells true)) == (2 : Int)) (br ((2 : Int) == tHow (Row.mk (List.take (shL (List.length b) * 5) (List.drop 0 (gC enA b))) true (Ob.cells
  true)) && ((0 : Int) == tCode (Row.mk (List.take (shL (List.length b) * 5) (List.drop 0 (gC enA b))) true (Ob.cells true)) && ((0 : Int) == tPos (Row.mk (List.take (shL
  (List.length b) * 5) (List.drop 0 (gC enA b))) true (Ob.cells true)) && true) && true)) (((True /\ (True /\ (True /\ True)))) /\ ((true = true) /\ ((Eq (α := List Value)
  (gC enA a) (gC enA a)) /\ ((Plain (gC enA a)) /\ ((Eq (α := List Value) (gC enA b) (gC enA b)) /\ ((Plain (gC enA b)) /\ True)))))) ((true = false) /\ ((Eq (α := List
  Value) (gC enA a) (gC enA a)) /\ ((Plain (gC enA a)) /\ ((Eq (α := List Value) (gC enA b) (gC enA b)) /\ ((Plain (gC enA b)) /\ True)))))) ((true = false) /\ ((Eq (α :=
  List Value) (gC enA a) (gC enA a)) /\ ((Plain (gC enA a)) /\ ((Eq (α := List Value) (gC enA b) (gC enA b)) /\ ((Plain (gC enA b)) /\ True))))))))) ((noGo (PanicEntry.mk
  (Value.iface 10 (Value.string dS)) false false :: reps 10 dS (Int.toNat (tDep (Row.mk (List.take (shL (List.length a) * 5) (List.drop 0 (gC enA a))) true (Ob.cells
  true))))) = true) /\ (((((0 + (0 + tLn (Row.mk (List.take (shL (List.length a) * 5) (List.drop 0 (gC enA a))) true (Ob.cells true)) + tLn (Row.mk (List.take (shL
  (List.length b) * 5) (List.drop 0 (gC enA b))) true (Ob.cells true))) * 1 <= List.length (iCells IntKind.i64 (dI (Row.mk (iCells IntKind.i64 ([] ++ tNs (Row.mk (List.take
  (shL (List.length a) * 5) (List.drop 0 (gC enA a))) true (Ob.cells true)))) false (Ob.cells true)) ++ tNs (Row.mk (List.take (shL (List.length b) * 5) (List.drop 0 (gC enA
  b))) true (Ob.cells true)))) /\ Plain (List.take ((0 + tLn (Row.mk (List.take (shL (List.length a) * 5) (List.drop 0 (gC enA a))) true (Ob.cells true)) + tLn (Row.mk
  (List.take (shL (List.length b) * 5) (List.drop 0 (gC enA b))) true (Ob.cells true))) * 1) (List.drop 0 (iCells IntKind.i64 (dI (Row.mk (iCells IntKind.i64 ([] ++ tNs
  (Row.mk (List.take (shL (List.length a) * 5) (List.drop 0 (gC enA a))) true (Ob.cells true)))) false (Ob.cells true)) ++ tNs (Row.mk (List.take (shL (List.length b) * 5)
  (List.drop 0 (gC enA b))) true (Ob.cells true))))))) /\ ((0 + (0 + tLn (Row.mk (List.take (shL (List.length a) * 5) (List.drop 0 (gC enA a))) true (Ob.cells true)) + tLn
  (Row.mk (List.take (shL (List.length b) * 5) (List.drop 0 (gC enA b))) true (Ob.cells true))) * 1 <= List.length (iCells IntKind.i64 (dI (Row.mk (iCells IntKind.i64 ([] ++
  tNs (Row.mk (List.take (shL (List.length a) * 5) (List.drop 0 (gC enA a))) true (Ob.cells true)))) false (Ob.cells true)) ++ tNs (Row.mk (List.take (shL (List.length b) *
  5) (List.drop 0 (gC enA b))) true (Ob.cells true)))) /\ Plain (List.take ((0 + tLn (Row.mk (List.take (shL (List.length a) * 5) (List.drop 0 (gC enA a))) true (Ob.cells
  true)) + tLn (Row.mk (List.take (shL (List.length b) * 5) (List.drop 0 (gC enA b))) true (Ob.cells true))) * 1) (List.drop 0 (iCells IntKind.i64 (dI (Row.mk (iCells
  IntKind.i64 ([] ++ tNs (Row.mk (List.take (shL (List.length a) * 5) (List.drop 0 (gC enA a))) true (Ob.cells true)))) false (Ob.cells true)) ++ tNs (Row.mk (List.take (shL
  (List.length b) * 5) (List.drop 0 (gC enA b))) true (Ob.cells true))))))) /\ True)) /\ ((True /\ (True /\ True)) /\ (True /\ (IsQ (Row.mk (List.take ((0 + tLn (Row.mk
  (List.take (shL (List.length a) * 5) (List.drop 0 (gC enA a))) true (Ob.cells true)) + tLn (Row.mk (List.take (shL (List.length b) * 5) (List.drop 0 (gC enA b))) true
  (Ob.cells true))) * 1) (List.drop 0 (iCells IntKind.i64 (dI (Row.mk (iCells IntKind.i64 ([] ++ tNs (Row.mk (List.take (shL (List.length a) * 5) (List.drop 0 (gC enA a)))
  true (Ob.cells true)))) false (Ob.cells true)) ++ tNs (Row.mk (List.take (shL (List.length b) * 5) (List.drop 0 (gC enA b))) true (Ob.cells true)))))) true (Ob.cells
  true)) (0 + tLn (Row.mk (List.take (shL (List.length a) * 5) (List.drop 0 (gC enA a))) true (Ob.cells true)) + tLn (Row.mk (List.take (shL (List.length b) * 5) (List.drop
  0 (gC enA b))) true (Ob.cells true))) /\ IsQ (Row.mk (List.take ((0 + tLn (Row.mk (List.take (shL (List.length a) * 5) (List.drop 0 (gC enA a))) true (Ob.cells true)) +
  tLn (Row.mk (List.take (shL (List.length b) * 5) (List.drop 0 (gC enA b))) true (Ob.cells true))) * 1) (List.drop 0 (iCells IntKind.i64 (dI (Row.mk (iCells IntKind.i64 ([]
  ++ tNs (Row.mk (List.take (shL (List.length a) * 5) (List.drop 0 (gC enA a))) true (Ob.cells true)))) false (Ob.cells true)) ++ tNs (Row.mk (List.take (shL (List.length b)
  * 5) (List.drop 0 (gC enA b))) true (Ob.cells true)))))) true (Ob.cells true)) (0 + tLn (Row.mk (List.take (shL (List.length a) * 5) (List.drop 0 (gC enA a))) true
  (Ob.cells true)) + tLn (Row.mk (List.take (shL (List.length b) * 5) (List.drop 0 (gC enA b))) true (Ob.cells true)))))))) /\ (br (!sameI (Row.mk (List.take ((0 + tLn
  (Row.mk (List.take (shL (List.length a) * 5) (List.drop 0 (gC enA a))) true (Ob.cells true)) + tLn (Row.mk (List.take (shL (List.length b) * 5) (List.drop 0 (gC enA b)))
  true (Ob.cells true))) * 1) (List.drop 0 (iCells IntKind.i64 (dI (Row.mk (iCells IntKind.i64 ([] ++ tNs (Row.mk (List.take (shL (List.length a) * 5) (List.drop 0 (gC enA
  a))) true (Ob.cells true)))) false (Ob.cells true)) ++ tNs (Row.mk (List.take (shL (List.length b) * 5) (List.drop 0 (gC enA b))) true (Ob.cells true)))))) true (Ob.cells
  true)) (Row.mk (List.take ((0 + tLn (Row.mk (List.take (shL (List.length a) * 5) (List.drop 0 (gC enA a))) true (Ob.cells true)) + tLn (Row.mk (List.take (shL (List.length
  b) * 5) (List.drop 0 (gC enA b))) true (Ob.cells true))) * 1) (List.drop 0 (iCells IntKind.i64 (dI (Row.mk (iCells IntKind.i64 ([] ++ tNs (Row.mk (List.take (shL
  (List.length a) * 5) (List.drop 0 (gC enA a))) true (Ob.cells true)))) false (Ob.cells true)) ++ tNs (Row.mk (List.take (shL (List.length b) * 5) (List.drop 0 (gC enA b)))
  true (Ob.cells true)))))) true (Ob.cells true))) ((true = false) /\ ((Eq (α := List Value) (gC enA a) (gC enA a)) /\ ((Plain (gC enA a)) /\ ((Eq (α := List Value) (gC enA
  b) (gC enA b)) /\ ((Plain (gC enA b)) /\ True))))) (br (tHow (Row.mk (List.take (shL (List.length b) * 5) (List.drop 0 (gC enA b))) true (Ob.cells true)) == (2 : Int)) (br
  ((0 : Int) == tHow (Row.mk (List.take (shL (List.length b) * 5) (List.drop 0 (gC enA b))) true (Ob.cells true)) && ((0 : Int) == tCode (Row.mk (List.take (shL (List.length
  b) * 5) (List.drop 0 (gC enA b))) true (Ob.cells true)) && ((0 : Int) == tPos (Row.mk (List.take (shL (List.length b) * 5) (List.drop 0 (gC enA b))) true (Ob.cells true))
  && true) && true)) (((True /\ (True /\ (True /\ True)))) /\ ((true = true) /\ ((Eq (α := List Value) (gC enA a) (gC enA a)) /\ ((Plain (gC enA a)) /\ ((Eq (α := List
  Value) (gC enA b) (gC enA b)) /\ ((Plain (gC enA b)) /\ True)))))) ((true = false) /\ ((Eq (α := List Value) (gC enA a) (gC enA a)) /\ ((Plain (gC enA a)) /\ ((Eq (α :=
  List Value) (gC enA b) (gC enA b)) /\ ((Plain (gC enA b)) /\ True)))))) (br (true == (tHow (Row.mk (List.take (shL (List.length b) * 5) (List.drop 0 (gC enA b))) true
  (Ob.cells true)) == (1 : Int))) (br (tCode (Row.mk (List.take (shL (List.length b) * 5) (List.drop 0 (gC enA b))) true (Ob.cells true)) == tCode (Row.mk (List.take (shL
  (List.length b) * 5) (List.drop 0 (gC enA b))) true (Ob.cells true)) && (tPos (Row.mk (List.take (shL (List.length b) * 5) (List.drop 0 (gC enA b))) true (Ob.cells true))
  == tPos (Row.mk (List.take (shL (List.length b) * 5) (List.drop 0 (gC enA b))) true (Ob.cells true)) && true)) (((True /\ (True /\ (True /\ True)))) /\ ((true = true) /\
  ((Eq (α := List Value) (gC enA a) (gC enA a)) /\ ((Plain (gC enA a)) /\ ((Eq (α := List Value) (gC enA b) (gC enA b)) /\ ((Plain (gC enA b)) /\ True)))))) ((true = false)
  /\ ((Eq (α := List Value) (gC enA a) (gC enA a)) /\ ((Plain (gC enA a)) /\ ((Eq (α := List Value) (gC enA b) (gC enA b)) /\ ((Plain (gC enA b)) /\ True)))))) ((true =
  false) /\ ((Eq (α := List Value) (gC enA a) (gC enA a)) /\ ((Plain (gC enA a)) /\ ((Eq (α := List Value) (gC enA b) (gC enA b)) /\ ((Plain (gC enA b)) /\
  True)))))))))))))) (((((0 + List.length b * 5 <= List.length (gC enA b) /\ Plain (List.take (List.length b * 5) (List.drop 0 (gC enA b)))) /\ True) /\ ((True /\ True) /\
  (True /\ IsL (Row.mk (List.take (List.length b * 5) (List.drop 0 (gC enA b))) true (Ob.cells true)) (List.length b))))) /\ (((((0 + shL (List.length b) * 5 <= List.length
  (gC enA b) /\ Plain (List.take (shL (List.length b) * 5) (List.drop 0 (gC enA b)))) /\ (True /\ True)) /\ ((True /\ ((True /\ True) /\ (Plain (iCells IntKind.i64 ([] ++
  tNs (Row.mk (List.take (shL (List.length a) * 5) (List.drop 0 (gC enA a))) true (Ob.cells true)))) /\ True))) /\ ((Plain (iCells IntKind.i64 (dI (Row.mk (iCells
  IntKind.i64 ([] ++ tNs (Row.mk (List.take (shL (List.length a) * 5) (List.drop 0 (gC enA a))) true (Ob.cells true)))) false (Ob.cells true)) ++ tNs (Row.mk (List.take (shL
  (List.length b) * 5) (List.drop 0 (gC enA b))) true (Ob.cells true)))) /\ True) /\ (IsA 41 (Row.mk (List.take (shL (List.length b) * 5) (List.drop 0 (gC enA b))) true
  (Ob.cells true)) (shL (List.length b)) (0 + tLn (Row.mk (List.take (shL (List.length a) * 5) (List.drop 0 (gC enA a))) true (Ob.cells true))) /\ IsZ (Row.mk (iCells
  IntKind.i64 ([] ++ tNs (Row.mk (List.take (shL (List.length a) * 5) (List.drop 0 (gC enA a))) true (Ob.cells true)))) false (Ob.cells true)) (0 + tLn (Row.mk (List.take
  (shL (List.length a) * 5) (List.drop 0 (gC enA a))) true (Ob.cells true)))))))) /\ (br (tOk (Row.mk (List.take (shL (List.length b) * 5) (List.drop 0 (gC enA b))) true
  (Ob.cells true))) ((true = true) /\ (((((0 + (0 + tLn (Row.mk (List.take (shL (List.length a) * 5) (List.drop 0 (gC enA a))) true (Ob.cells true)) + tLn (Row.mk (List.take
  (shL (List.length b) * 5) (List.drop 0 (gC enA b))) true (Ob.cells true))) * 1 <= List.length (iCells IntKind.i64 (dI (Row.mk (iCells IntKind.i64 ([] ++ tNs (Row.mk
  (List.take (shL (List.length a) * 5) (List.drop 0 (gC enA a))) true (Ob.cells true)))) false (Ob.cells true)) ++ tNs (Row.mk (List.take (shL (List.length b) * 5)
  (List.drop 0 (gC enA b))) true (Ob.cells true)))) /\ Plain (List.take ((0 + tLn (Row.mk (List.take (shL (List.length a) * 5) (List.drop 0 (gC enA a))) true (Ob.cells
  true)) + tLn (Row.mk (List.take (shL (List.length b) * 5) (List.drop 0 (gC enA b))) true (Ob.cells true))) * 1) (List.drop 0 (iCells IntKind.i64 (dI (Row.mk (iCells
  IntKind.i64 ([] ++ tNs (Row.mk (List.take (shL (List.length a) * 5) (List.drop 0 (gC enA a))) true (Ob.cells true)))) false (Ob.cells true)) ++ tNs (Row.mk (List.take (shL
  (List.length b) * 5) (List.drop 0 (gC enA b))) true (Ob.cells true))))))) /\ ((0 + (0 + tLn (Row.mk (List.take (shL (List.length a) * 5) (List.drop 0 (gC enA a))) true
  (Ob.cells true)) + tLn (Row.mk (List.take (shL (List.length b) * 5) (List.drop 0 (gC enA b))) true (Ob.cells true))) * 1 <= List.length (iCells IntKind.i64 (dI (Row.mk
  (iCells IntKind.i64 ([] ++ tNs (Row.mk (List.take (shL (List.length a) * 5) (List.drop 0 (gC enA a))) true (Ob.cells true)))) false (Ob.cells true)) ++ tNs (Row.mk
  (List.take (shL (List.length b) * 5) (List.drop 0 (gC enA b))) true (Ob.cells true)))) /\ Plain (List.take ((0 + tLn (Row.mk (List.take (shL (List.length a) * 5)
  (List.drop 0 (gC enA a))) true (Ob.cells true)) + tLn (Row.mk (List.take (shL (List.length b) * 5) (List.drop 0 (gC enA b))) true (Ob.cells true))) * 1) (List.drop 0
  (iCells IntKind.i64 (dI (Row.mk (iCells IntKind.i64 ([] ++ tNs (Row.mk (List.take (shL (List.length a) * 5) (List.drop 0 (gC enA a))) true (Ob.cells true)))) false
  (Ob.cells true)) ++ tNs (Row.mk (List.take (shL (List.length b) * 5) (List.drop 0 (gC enA b))) true (Ob.cells true))))))) /\ True)) /\ ((True /\ (True /\ True)) /\ (True
  /\ (IsQ (Row.mk (List.take ((0 + tLn (Row.mk (List.take (shL (List.length a) * 5) (List.drop 0 (gC enA a))) true (Ob.cells true)) + tLn (Row.mk (List.take (shL
  (List.length b) * 5) (List.drop 0 (gC enA b))) true (Ob.cells true))) * 1) (List.drop 0 (iCells IntKind.i64 (dI (Row.mk (iCells IntKind.i64 ([] ++ tNs (Row.mk (List.take
  (shL (List.length a) * 5) (List.drop 0 (gC enA a))) true (Ob.cells true)))) false (Ob.cells true)) ++ tNs (Row.mk (List.take (shL (List.length b) * 5) (List.drop 0 (gC enA
  b))) true (Ob.cells true)))))) true (Ob.cells true)) (0 + tLn (Row.mk (List.take (shL (List.length a) * 5) (List.drop 0 (gC enA a))) true (Ob.cells true)) + tLn (Row.mk
  (List.take (shL (List.length b) * 5) (List.drop 0 (gC enA b))) true (Ob.cells true))) /\ IsQ (Row.mk (List.take ((0 + tLn (Row.mk (List.take (shL (List.length a) * 5)
  (List.drop 0 (gC enA a))) true (Ob.cells true)) + tLn (Row.mk (List.take (shL (List.length b) * 5) (List.drop 0 (gC enA b))) true (Ob.cells true))) * 1) (List.drop 0
  (iCells IntKind.i64 (dI (Row.mk (iCells IntKind.i64 ([] ++ tNs (Row.mk (List.take (shL (List.length a) * 5) (List.drop 0 (gC enA a))) true (Ob.cells true)))) false
  (Ob.cells true)) ++ tNs (Row.mk (List.take (shL (List.length b) * 5) (List.drop 0 (gC enA b))) true (Ob.cells true)))))) true (Ob.cells true)) (0 + tLn (Row.mk (List.take
  (shL (List.length a) * 5) (List.drop 0 (gC enA a))) true (Ob.cells true)) + tLn (Row.mk (List.take (shL (List.length b) * 5) (List.drop 0 (gC enA b))) true (Ob.cells
  true)))))))) /\ (br (!sameI (Row.mk (List.take ((0 + tLn (Row.mk (List.take (shL (List.length a) * 5) (List.drop 0 (gC enA a))) true (Ob.cells true)) + tLn (Row.mk
  (List.take (shL (List.length b) * 5) (List.drop 0 (gC enA b))) true (Ob.cells true))) * 1) (List.drop 0 (iCells IntKind.i64 (dI (Row.mk (iCells IntKind.i64 ([] ++ tNs
  (Row.mk (List.take (shL (List.length a) * 5) (List.drop 0 (gC enA a))) true (Ob.cells true)))) false (Ob.cells true)) ++ tNs (Row.mk (List.take (shL (List.length b) * 5)
  (List.drop 0 (gC enA b))) true (Ob.cells true)))))) true (Ob.cells true)) (Row.mk (List.take ((0 + tLn (Row.mk (List.take (shL (List.length a) * 5) (List.drop 0 (gC enA
  a))) true (Ob.cells true)) + tLn (Row.mk (List.take (shL (List.length b) * 5) (List.drop 0 (gC enA b))) true (Ob.cells true))) * 1) (List.drop 0 (iCells IntKind.i64 (dI
  (Row.mk (iCells IntKind.i64 ([] ++ tNs (Row.mk (List.take (shL (List.length a) * 5) (List.drop 0 (gC enA a))) true (Ob.cells true)))) false (Ob.cells true)) ++ tNs (Row.mk
  (List.take (shL (List.length b) * 5) (List.drop 0 (gC enA b))) true (Ob.cells true)))))) true (Ob.cells true))) ((true = false) /\ ((Eq (α := List Value) (gC enA a) (gC
  enA a)) /\ ((Plain (gC enA a)) /\ ((Eq (α := List Value) (gC enA b) (gC enA b)) /\ ((Plain (gC enA b)) /\ True))))) (br (tHow (Row.mk (List.take (shL (List.length b) * 5)
  (List.drop 0 (gC enA b))) true (Ob.cells true)) == (2 : Int)) (br ((0 : Int) == tHow (Row.mk (List.take (shL (List.length b) * 5) (List.drop 0 (gC enA b))) true (Ob.cells
  true)) && ((0 : Int) == tCode (Row.mk (List.take (shL (List.length b) * 5) (List.drop 0 (gC enA b))) true (Ob.cells true)) && ((0 : Int) == tPos (Row.mk (List.take (shL
  (List.length b) * 5) (List.drop 0 (gC enA b))) true (Ob.cells true)) && true) && true)) (((True /\ (True /\ (True /\ True)))) /\ ((true = true) /\ ((Eq (α := List Value)
  (gC enA a) (gC enA a)) /\ ((Plain (gC enA a)) /\ ((Eq (α := List Value) (gC enA b) (gC enA b)) /\ ((Plain (gC enA b)) /\ True)))))) ((true = false) /\ ((Eq (α := List
  Value) (gC enA a) (gC enA a)) /\ ((Plain (gC enA a)) /\ ((Eq (α := List Value) (gC enA b) (gC enA b)) /\ ((Plain (gC enA b)) /\ True)))))) (br (true == (tHow (Row.mk
  (List.take (shL (List.length b) * 5) (List.drop 0 (gC enA b))) true (Ob.cells true)) == (1 : Int))) (br (tCode (Row.mk (List.take (shL (List.length a) * 5) (List.drop 0
  (gC enA a))) true (Ob.cells true)) == tCode (Row.mk (List.take (shL (List.length b) * 5) (List.drop 0 (gC enA b))) true (Ob.cells true)) && (tPos (Row.mk (List.take (shL
  (List.length a) * 5) (List.drop 0 (gC enA a))) true (Ob.cells true)) == tPos (Row.mk (List.take (shL (List.length b) * 5) (List.drop 0 (gC enA b))) true (Ob.cells true))
  && true)) (((True /\ (True /\ (True /\ True)))) /\ ((true = true) /\ ((Eq (α := List Value) (gC enA a) (gC enA a)) /\ ((Plain (gC enA a)) /\ ((Eq (α := List Value) (gC enA
  b) (gC enA b)) /\ ((Plain (gC enA b)) /\ True)))))) ((true = false) /\ ((Eq (α := List Value) (gC enA a) (gC enA a)) /\ ((Plain (gC enA a)) /\ ((Eq (α := List Value) (gC
  enA b) (gC enA b)) /\ ((Plain (gC enA b)) /\ True)))))) ((true = false) /\ ((Eq (α := List Value) (gC enA a) (gC enA a)) /\ ((Plain (gC enA a)) /\ ((Eq (α := List Value)
  (gC enA b) (gC enA b)) /\ ((Plain (gC enA b)) /\ True)))))))))) (br (tRt (Row.mk (List.take (shL (List.length b) * 5) (List.drop 0 (gC enA b))) true (Ob.cells true)))
  ((noGo (PanicEntry.mk (Value.iface 10 (Value.string dS)) true false :: (reps 10 dS (Int.toNat (tDep (Row.mk (List.take (shL (List.length b) * 5) (List.drop 0 (gC enA b)))
  true (Ob.cells true)))) ++ [PanicEntry.mk (Value.iface 23 (Value.agg (Array.mk [Value.int IntKind.i64 (tCode (Row.mk (List.take (shL (List.length a) * 5) (List.drop 0 (gC
  enA a))) true (Ob.cells true))), Value.int IntKind.i64 (tPos (Row.mk (List.take (shL (List.length a) * 5) (List.drop 0 (gC enA a))) true (Ob.cells true)))]))) false
  false])) = true) /\ (((((0 + (0 + tLn (Row.mk (List.take (shL (List.length a) * 5) (List.drop 0 (gC enA a))) true (Ob.cells true)) + tLn (Row.mk (List.take (shL
  (List.length b) * 5) (List.drop 0 (gC enA b))) true (Ob.cells true))) * 1 <= List.length (iCells IntKind.i64 (dI (Row.mk (iCells IntKind.i64 ([] ++ tNs (Row.mk (List.take
  (shL (List.length a) * 5) (List.drop 0 (gC enA a))) true (Ob.cells true)))) false (Ob.cells true)) ++ tNs (Row.mk (List.take (shL (List.length b) * 5) (List.drop 0 (gC enA
  b))) true (Ob.cells true)))) /\ Plain (List.take ((0 + tLn (Row.mk (List.take (shL (List.length a) * 5) (List.drop 0 (gC enA a))) true (Ob.cells true)) + tLn (Row.mk
  (List.take (shL (List.length b) * 5) (List.drop 0 (gC enA b))) true (Ob.cells true))) * 1) (List.drop 0 (iCells IntKind.i64 (dI (Row.mk (iCells IntKind.i64 ([] ++ tNs
  (Row.mk (List.take (shL (List.length a) * 5) (List.drop 0 (gC enA a))) true (Ob.cells true)))) false (Ob.cells true)) ++ tNs (Row.mk (List.take (shL (List.length b) * 5)
  (List.drop 0 (gC enA b))) true (Ob.cells true))))))) /\ ((0 + (0 + tLn (Row.mk (List.take (shL (List.length a) * 5) (List.drop 0 (gC enA a))) true (Ob.cells true)) + tLn
  (Row.mk (List.take (shL (List.length b) * 5) (List.drop 0 (gC enA b))) true (Ob.cells true))) * 1 <= List.length (iCells IntKind.i64 (dI (Row.mk (iCells IntKind.i64 ([] ++
  tNs (Row.mk (List.take (shL (List.length a) * 5) (List.drop 0 (gC enA a))) true (Ob.cells true)))) false (Ob.cells true)) ++ tNs (Row.mk (List.take (shL (List.length b) *
  5) (List.drop 0 (gC enA b))) true (Ob.cells true)))) /\ Plain (List.take ((0 + tLn (Row.mk (List.take (shL (List.length a) * 5) (List.drop 0 (gC enA a))) true (Ob.cells
  true)) + tLn (Row.mk (List.take (shL (List.length b) * 5) (List.drop 0 (gC enA b))) true (Ob.cells true))) * 1) (List.drop 0 (iCells IntKind.i64 (dI (Row.mk (iCells
  IntKind.i64 ([] ++ tNs (Row.mk (List.take (shL (List.length a) * 5) (List.drop 0 (gC enA a))) true (Ob.cells true)))) false (Ob.cells true)) ++ tNs (Row.mk (List.take (shL
  (List.length b) * 5) (List.drop 0 (gC enA b))) true (Ob.cells true))))))) /\ True)) /\ ((True /\ (True /\ True)) /\ (True /\ (IsQ (Row.mk (List.take ((0 + tLn (Row.mk
  (List.take (shL (List.length a) * 5) (List.drop 0 (gC enA a))) true (Ob.cells true)) + tLn (Row.mk (List.take (shL (List.length b) * 5) (List.drop 0 (gC enA b))) true
  (Ob.cells true))) * 1) (List.drop 0 (iCells IntKind.i64 (dI (Row.mk (iCells IntKind.i64 ([] ++ tNs (Row.mk (List.take (shL (List.length a) * 5) (List.drop 0 (gC enA a)))
  true (Ob.cells true)))) false (Ob.cells true)) ++ tNs (Row.mk (List.take (shL (List.length b) * 5) (List.drop 0 (gC enA b))) true (Ob.cells true)))))) true (Ob.cells
  true)) (0 + tLn (Row.mk (List.take (shL (List.length a) * 5) (List.drop 0 (gC enA a))) true (Ob.cells true)) + tLn (Row.mk (List.take (shL (List.length b) * 5) (List.drop
  0 (gC enA b))) true (Ob.cells true))) /\ IsQ (Row.mk (List.take ((0 + tLn (Row.mk (List.take (shL (List.length a) * 5) (List.drop 0 (gC enA a))) true (Ob.cells true)) +
  tLn (Row.mk (List.take (shL (List.length b) * 5) (List.drop 0 (gC enA b))) true (Ob.cells true))) * 1) (List.drop 0 (iCells IntKind.i64 (dI (Row.mk (iCells IntKind.i64 ([]
  ++ tNs (Row.mk (List.take (shL (List.length a) * 5) (List.drop 0 (gC enA a))) true (Ob.cells true)))) false (Ob.cells true)) ++ tNs (Row.mk (List.take (shL (List.length b)
  * 5) (List.drop 0 (gC enA b))) true (Ob.cells true)))))) true (Ob.cells true)) (0 + tLn (Row.mk (List.take (shL (List.length a) * 5) (List.drop 0 (gC enA a))) true
  (Ob.cells true)) + tLn (Row.mk (List.take (shL (List.length b) * 5) (List.drop 0 (gC enA b))) true (Ob.cells true)))))))) /\ (br (!sameI (Row.mk (List.take ((0 + tLn
  (Row.mk (List.take (shL (List.length a) * 5) (List.drop 0 (gC enA a))) true (Ob.cells true)) + tLn (Row.mk (List.take (shL (List.length b) * 5) (List.drop 0 (gC enA b)))
  true (Ob.cells true))) * 1) (List.drop 0 (iCells IntKind.i64 (dI (Row.mk (iCells IntKind.i64 ([] ++ tNs (Row.mk (List.take (shL (List.length a) * 5) (List.drop 0 (gC enA
  a))) true (Ob.cells true)))) false (Ob.cells true)) ++ tNs (Row.mk (List.take (shL (List.length b) * 5) (List.drop 0 (gC enA b))) true (Ob.cells true)))))) true (Ob.cells
  true)) (Row.mk (List.take ((0 + tLn (Row.mk (List.take (shL (List.length a) * 5) (List.drop 0 (gC enA a))) true (Ob.cells true)) + tLn (Row.mk (List.take (shL (List.length
  b) * 5) (List.drop 0 (gC enA b))) true (Ob.cells true))) * 1) (List.drop 0 (iCells IntKind.i64 (dI (Row.mk (iCells IntKind.i64 ([] ++ tNs (Row.mk (List.take (shL
  (List.length a) * 5) (List.drop 0 (gC enA a))) true (Ob.cells true)))) false (Ob.cells true)) ++ tNs (Row.mk (List.take (shL (List.length b) * 5) (List.drop 0 (gC enA b)))
  true (Ob.cells true)))))) true (Ob.cells true))) ((true = false) /\ ((Eq (α := List Value) (gC enA a) (gC enA a)) /\ ((Plain (gC enA a)) /\ ((Eq (α := List Value) (gC enA
  b) (gC enA b)) /\ ((Plain (gC enA b)) /\ True))))) (br (tHow (Row.mk (List.take (shL (List.length b) * 5) (List.drop 0 (gC enA b))) true (Ob.cells true)) == (2 : Int)) (br
  ((2 : Int) == tHow (Row.mk (List.take (shL (List.length b) * 5) (List.drop 0 (gC enA b))) true (Ob.cells true)) && ((0 : Int) == tCode (Row.mk (List.take (shL (List.length
  b) * 5) (List.drop 0 (gC enA b))) true (Ob.cells true)) && ((0 : Int) == tPos (Row.mk (List.take (shL (List.length b) * 5) (List.drop 0 (gC enA b))) true (Ob.cells true))
  && true) && true)) (((True /\ (True /\ (True /\ True)))) /\ ((true = true) /\ ((Eq (α := List Value) (gC enA a) (gC enA a)) /\ ((Plain (gC enA a)) /\ ((Eq (α := List
  Value) (gC enA b) (gC enA b)) /\ ((Plain (gC enA b)) /\ True)))))) ((true = false) /\ ((Eq (α := List Value) (gC enA a) (gC enA a)) /\ ((Plain (gC enA a)) /\ ((Eq (α :=
  List Value) (gC enA b) (gC enA b)) /\ ((Plain (gC enA b)) /\ True)))))) ((true = false) /\ ((Eq (α := List Value) (gC enA a) (gC enA a)) /\ ((Plain (gC enA a)) /\ ((Eq (α
  := List Value) (gC enA b) (gC enA b)) /\ ((Plain (gC enA b)) /\ True))))))))) ((true = true) /\ (((((0 + (0 + tLn (Row.mk (List.take (shL (List.length a) * 5) (List.drop 0
  (gC enA a))) true (Ob.cells true)) + tLn (Row.mk (List.take (shL (List.length b) * 5) (List.drop 0 (gC enA b))) true (Ob.cells true))) * 1 <= List.length (iCells
  IntKind.i64 (dI (Row.mk (iCells IntKind.i64 ([] ++ tNs (Row.mk (List.take (shL (List.length a) * 5) (List.drop 0 (gC enA a))) true (Ob.cells true)))) false (Ob.cells
  true)) ++ tNs (Row.mk (List.take (shL (List.length b) * 5) (List.drop 0 (gC enA b))) true (Ob.cells true)))) /\ Plain (List.take ((0 + tLn (Row.mk (List.take (shL
  (List.length a) * 5) (List.drop 0 (gC enA a))) true (Ob.cells true)) + tLn (Row.mk (List.take (shL (List.length b) * 5) (List.drop 0 (gC enA b))) true (Ob.cells true))) *
  1) (List.drop 0 (iCells IntKind.i64 (dI (Row.mk (iCells IntKind.i64 ([] ++ tNs (Row.mk (List.take (shL (List.length a) * 5) (List.drop 0 (gC enA a))) true (Ob.cells
  true)))) false (Ob.cells true)) ++ tNs (Row.mk (List.take (shL (List.length b) * 5) (List.drop 0 (gC enA b))) true (Ob.cells true))))))) /\ ((0 + (0 + tLn (Row.mk
  (List.take (shL (List.length a) * 5) (List.drop 0 (gC enA a))) true (Ob.cells true)) + tLn (Row.mk (List.take (shL (List.length b) * 5) (List.drop 0 (gC enA b))) true
  (Ob.cells true))) * 1 <= List.length (iCells IntKind.i64 (dI (Row.mk (iCells IntKind.i64 ([] ++ tNs (Row.mk (List.take (shL (List.length a) * 5) (List.drop 0 (gC enA a)))
  true (Ob.cells true)))) false (Ob.cells true)) ++ tNs (Row.mk (List.take (shL (List.length b) * 5) (List.drop 0 (gC enA b))) true (Ob.cells true)))) /\ Plain (List.take
  ((0 + tLn (Row.mk (List.take (shL (List.length a) * 5) (List.drop 0 (gC enA a))) true (Ob.cells true)) + tLn (Row.mk (List.take (shL (List.length b) * 5) (List.drop 0 (gC
  enA b))) true (Ob.cells true))) * 1) (List.drop 0 (iCells IntKind.i64 (dI (Row.mk (iCells IntKind.i64 ([] ++ tNs (Row.mk (List.take (shL (List.length a) * 5) (List.drop 0
  (gC enA a))) true (Ob.cells true)))) false (Ob.cells true)) ++ tNs (Row.mk (List.take (shL (List.length b) * 5) (List.drop 0 (gC enA b))) true (Ob.cells true))))))) /\
  True)) /\ ((True /\ (True /\ True)) /\ (True /\ (IsQ (Row.mk (List.take ((0 + tLn (Row.mk (List.take (shL (List.length a) * 5) (List.drop 0 (gC enA a))) true (Ob.cells
  true)) + tLn (Row.mk (List.take (shL (List.length b) * 5) (List.drop 0 (gC enA b))) true (Ob.cells true))) * 1) (List.drop 0 (iCells IntKind.i64 (dI (Row.mk (iCells
  IntKind.i64 ([] ++ tNs (Row.mk (List.take (shL (List.length a) * 5) (List.drop 0 (gC enA a))) true (Ob.cells true)))) false (Ob.cells true)) ++ tNs (Row.mk (List.take (shL
  (List.length b) * 5) (List.drop 0 (gC enA b))) true (Ob.cells true)))))) true (Ob.cells true)) (0 + tLn (Row.mk (List.take (shL (List.length a) * 5) (List.drop 0 (gC enA
  a))) true (Ob.cells true)) + tLn (Row.mk (List.take (shL (List.length b) * 5) (List.drop 0 (gC enA b))) true (Ob.cells true))) /\ IsQ (Row.mk (List.take ((0 + tLn (Row.mk
  (List.take (shL (List.length a) * 5) (List.drop 0 (gC enA a))) true (Ob.cells true)) + tLn (Row.mk (List.take (shL (List.length b) * 5) (List.drop 0 (gC enA b))) true
  (Ob.cells true))) * 1) (List.drop 0 (iCells IntKind.i64 (dI (Row.mk (iCells IntKind.i64 ([] ++ tNs (Row.mk (List.take (shL (List.length a) * 5) (List.drop 0 (gC enA a)))
  true (Ob.cells true)))) false (Ob.cells true)) ++ tNs (Row.mk (List.take (shL (List.length b) * 5) (List.drop 0 (gC enA b))) true (Ob.cells true)))))) true (Ob.cells
  true)) (0 + tLn (Row.mk (List.take (shL (List.length a) * 5) (List.drop 0 (gC enA a))) true (Ob.cells true)) + tLn (Row.mk (List.take (shL (List.length b) * 5) (List.drop
  0 (gC enA b))) true (Ob.cells true)))))))) /\ (br (!sameI (Row.mk (List.take ((0 + tLn (Row.mk (List.take (shL (List.length a) * 5) (List.drop 0 (gC enA a))) true
  (Ob.cells true)) + tLn (Row.mk (List.take (shL (List.length b) * 5) (List.drop 0 (gC enA b))) true (Ob.cells true))) * 1) (List.drop 0 (iCells IntKind.i64 (dI (Row.mk
  (iCells IntKind.i64 ([] ++ tNs (Row.mk (List.take (shL (List.length a) * 5) (List.drop 0 (gC enA a))) true (Ob.cells true)))) false (Ob.cells true)) ++ tNs (Row.mk
  (List.take (shL (List.length b) * 5) (List.drop 0 (gC enA b))) true (Ob.cells true)))))) true (Ob.cells true)) (Row.mk (List.take ((0 + tLn (Row.mk (List.take (shL
  (List.length a) * 5) (List.drop 0 (gC enA a))) true (Ob.cells true)) + tLn (Row.mk (List.take (shL (List.length b) * 5) (List.drop 0 (gC enA b))) true (Ob.cells true))) *
  1) (List.drop 0 (iCells IntKind.i64 (dI (Row.mk (iCells IntKind.i64 ([] ++ tNs (Row.mk (List.take (shL (List.length a) * 5) (List.drop 0 (gC enA a))) true (Ob.cells
  true)))) false (Ob.cells true)) ++ tNs (Row.mk (List.take (shL (List.length b) * 5) (List.drop 0 (gC enA b))) true (Ob.cells true)))))) true (Ob.cells true))) ((true =
  false) /\ ((Eq (α := List Value) (gC enA a) (gC enA a)) /\ ((Plain (gC enA a)) /\ ((Eq (α := List Value) (gC enA b) (gC enA b)) /\ ((Plain (gC enA b)) /\ True))))) (br
  (tHow (Row.mk (List.take (shL (List.length b) * 5) (List.drop 0 (gC enA b))) true (Ob.cells true)) == (2 : Int)) (br ((0 : Int) == tHow (Row.mk (List.take (shL
  (List.length b) * 5) (List.drop 0 (gC enA b))) true (Ob.cells true)) && ((0 : Int) == tCode (Row.mk (List.take (shL (List.length b) * 5) (List.drop 0 (gC enA b))) true
  (Ob.cells true)) && ((0 : Int) == tPos (Row.mk (List.take (shL (List.length b) * 5) (List.drop 0 (gC enA b))) true (Ob.cells true)) && true) && true)) (((True /\ (True /\
  (True /\ True)))) /\ ((true = true) /\ ((Eq (α := List Value) (gC enA a) (gC enA a)) /\ ((Plain (gC enA a)) /\ ((Eq (α := List Value) (gC enA b) (gC enA b)) /\ ((Plain (gC
  enA b)) /\ True)))))) ((true = false) /\ ((Eq (α := List Value) (gC enA a) (gC enA a)) /\ ((Plain (gC enA a)) /\ ((Eq (α := List Value) (gC enA b) (gC enA b)) /\ ((Plain
  (gC enA b)) /\ True)))))) (br (true == (tHow (Row.mk (List.take (shL (List.length b) * 5) (List.drop 0 (gC enA b))) true (Ob.cells true)) == (1 : Int))) (br (tCode (Row.mk
  (List.take (shL (List.length b) * 5) (List.drop 0 (gC enA b))) true (Ob.cells true)) == tCode (Row.mk (List.take (shL (List.length b) * 5) (List.drop 0 (gC enA b))) true
  (Ob.cells true)) && (tPos (Row.mk (List.take (shL (List.length b) * 5) (List.drop 0 (gC enA b))) true (Ob.cells true)) == tPos (Row.mk (List.take (shL (List.length b) * 5)
  (List.drop 0 (gC enA b))) true (Ob.cells true)) && true)) (((True /\ (True /\ (True /\ True)))) /\ ((true = true) /\ ((Eq (α := List Value) (gC enA a) (gC enA a)) /\
  ((Plain (gC enA a)) /\ ((Eq (α := List Value) (gC enA b) (gC enA b)) /\ ((Plain (gC enA b)) /\ True)))))) ((true = false) /\ ((Eq (α := List Value) (gC enA a) (gC enA a))
  /\ ((Plain (gC enA a)) /\ ((Eq (α := List Value) (gC enA b) (gC enA b)) /\ ((Plain (gC enA b)) /\ True)))))) ((true = false) /\ ((Eq (α := List Value) (gC enA a) (gC enA
  a)) /\ ((Plain (gC enA a)) /\ ((Eq (α := List Value) (gC enA b) (gC enA b)) /\ ((Plain (gC enA b)) /\ True)))))))))))))))))) (((((0 + List.length a * 5 <= List.length (gC
  enA a) /\ Plain (List.take (List.length a * 5) (List.drop 0 (gC enA a)))) /\ True) /\ ((True /\ True) /\ (True /\ IsL (Row.mk (List.take (List.length a * 5) (List.drop 0
  (gC enA a))) true (Ob.cells true)) (List.length a))))) /\ (((((0 + shL (List.length a) * 5 <= List.length (gC enA a) /\ Plain (List.take (shL (List.length a) * 5)
  (List.drop 0 (gC enA a)))) /\ (True /\ True)) /\ ((True /\ ((True /\ True) /\ (Plain [] /\ True))) /\ ((Plain (iCells IntKind.i64 ([] ++ tNs (Row.mk (List.take (shL
  (List.length a) * 5) (List.drop 0 (gC enA a))) true (Ob.cells true)))) /\ True) /\ (IsA 41 (Row.mk (List.take (shL (List.length a) * 5) (List.drop 0 (gC enA a))) true
  (Ob.cells true)) (shL (List.length a)) 0 /\ IsZ (Row.mk [] false (Ob.cells true)) 0))))) /\ (br (tOk (Row.mk (List.take (shL (List.length a) * 5) (List.drop 0 (gC enA a)))
  true (Ob.cells true))) (((((0 + List.length b * 5 <= List.length (gC enA b) /\ Plain (List.take (List.length b * 5) (List.drop 0 (gC enA b)))) /\ True) /\ ((True /\ True)
  /\ (True /\ IsL (Row.mk (List.take (List.length b * 5) (List.drop 0 (gC enA b))) true (Ob.cells true)) (List.length b))))) /\ (((((0 + shL (List.length b) * 5 <=
  List.length (gC enA b) /\ Plain (List.take (shL (List.length b) * 5) (List.drop 0 (gC enA b)))) /\ (True /\ True)) /\ ((True /\ ((True /\ True) /\ (Plain (iCells
  IntKind.i64 ([] ++ tNs (Row.mk (List.take (shL (List.length a) * 5) (List.drop 0 (gC enA a))) true (Ob.cells true)))) /\ True))) /\ ((Plain (iCells IntKind.i64 (dI (Row.mk
  (iCells IntKind.i64 ([] ++ tNs (Row.mk (List.take (shL (List.length a) * 5) (List.drop 0 (gC enA a))) true (Ob.cells true)))) false (Ob.cells true)) ++ tNs (Row.mk
  (List.take (shL (List.length b) * 5) (List.drop 0 (gC enA b))) true (Ob.cells true)))) /\ True) /\ (IsA 41 (Row.mk (List.take (shL (List.length b) * 5) (List.drop 0 (gC
  enA b))) true (Ob.cells true)) (shL (List.length b)) (0 + tLn (Row.mk (List.take (shL (List.length a) * 5) (List.drop 0 (gC enA a))) true (Ob.cells true))) /\ IsZ (Row.mk
  (iCells IntKind.i64 ([] ++ tNs (Row.mk (List.take (shL (List.length a) * 5) (List.drop 0 (gC enA a))) true (Ob.cells true)))) false (Ob.cells true)) (0 + tLn (Row.mk
  (List.take (shL (List.length a) * 5) (List.drop 0 (gC enA a))) true (Ob.cells true)))))))) /\ (br (tOk (Row.mk (List.take (shL (List.length b) * 5) (List.drop 0 (gC enA
  b))) true (Ob.cells true))) (((((0 + (0 + tLn (Row.mk (List.take (shL (List.length a) * 5) (List.drop 0 (gC enA a))) true (Ob.cells true)) + tLn (Row.mk (List.take (shL
  (List.length b) * 5) (List.drop 0 (gC enA b))) true (Ob.cells true))) * 1 <= List.length (iCells IntKind.i64 (dI (Row.mk (iCells IntKind.i64 ([] ++ tNs (Row.mk (List.take
  (shL (List.length a) * 5) (List.drop 0 (gC enA a))) true (Ob.cells true)))) false (Ob.cells true)) ++ tNs (Row.mk (List.take (shL (List.length b) * 5) (List.drop 0 (gC enA
  b))) true (Ob.cells true)))) /\ Plain (List.take ((0 + tLn (Row.mk (List.take (shL (List.length a) * 5) (List.drop 0 (gC enA a))) true (Ob.cells true)) + tLn (Row.mk
  (List.take (shL (List.length b) * 5) (List.drop 0 (gC enA b))) true (Ob.cells true))) * 1) (List.drop 0 (iCells IntKind.i64 (dI (Row.mk (iCells IntKind.i64 ([] ++ tNs
  (Row.mk (List.take (shL (List.length a) * 5) (List.drop 0 (gC enA a))) true (Ob.cells true)))) false (Ob.cells true)) ++ tNs (Row.mk (List.take (shL (List.length b) * 5)
  (List.drop 0 (gC enA b))) true (Ob.cells true))))))) /\ ((0 + (0 + tLn (Row.mk (List.take (shL (List.length a) * 5) (List.drop 0 (gC enA a))) true (Ob.cells true)) + tLn
  (Row.mk (List.take (shL (List.length b) * 5) (List.drop 0 (gC enA b))) true (Ob.cells true))) * 1 <= List.length (iCells IntKind.i64 (dI (Row.mk (iCells IntKind.i64 ([] ++
  tNs (Row.mk (List.take (shL (List.length a) * 5) (List.drop 0 (gC enA a))) true (Ob.cells true)))) false (Ob.cells true)) ++ tNs (Row.mk (List.take (shL (List.length b) *
  5) (List.drop 0 (gC enA b))) true (Ob.cells true)))) /\ Plain (List.take ((0 + tLn (Row.mk (List.take (shL (List.length a) * 5) (List.drop 0 (gC enA a))) true (Ob.cells
  true)) + tLn (Row.mk (List.take (shL (List.length b) * 5) (List.drop 0 (gC enA b))) true (Ob.cells true))) * 1) (List.drop 0 (iCells IntKind.i64 (dI (Row.mk (iCells
  IntKind.i64 ([] ++ tNs (Row.mk (List.take (shL (List.length a) * 5) (List.drop 0 (gC enA a))) true (Ob.cells true)))) false (Ob.cells true)) ++ tNs (Row.mk (List.take (shL
  (List.length b) * 5) (List.drop 0 (gC enA b))) true (Ob.cells true))))))) /\ True)) /\ ((True /\ (True /\ True)) /\ (True /\ (IsQ (Row.mk (List.take ((0 + tLn (Row.mk
  (List.take (shL (List.length a) * 5) (List.drop 0 (gC enA a))) true (Ob.cells true)) + tLn (Row.mk (List.take (shL (List.length b) * 5) (List.drop 0 (gC enA b))) true
  (Ob.cells true))) * 1) (List.drop 0 (iCells IntKind.i64 (dI (Row.mk (iCells IntKind.i64 ([] ++ tNs (Row.mk (List.take (shL (List.length a) * 5) (List.drop 0 (gC enA a)))
  true (Ob.cells true)))) false (Ob.cells true)) ++ tNs (Row.mk (List.take (shL (List.length b) * 5) (List.drop 0 (gC enA b))) true (Ob.cells true)))))) true (Ob.cells
  true)) (0 + tLn (Row.mk (List.take (shL (List.length a) * 5) (List.drop 0 (gC enA a))) true (Ob.cells true)) + tLn (Row.mk (List.take (shL (List.length b) * 5) (List.drop
  0 (gC enA b))) true (Ob.cells true))) /\ IsQ (Row.mk (List.take ((0 + tLn (Row.mk (List.take (shL (List.length a) * 5) (List.drop 0 (gC enA a))) true (Ob.cells true)) +
  tLn (Row.mk (List.take (shL (List.length b) * 5) (List.drop 0 (gC enA b))) true (Ob.cells true))) * 1) (List.drop 0 (iCells IntKind.i64 (dI (Row.mk (iCells IntKind.i64 ([]
  ++ tNs (Row.mk (List.take (shL (List.length a) * 5) (List.drop 0 (gC enA a))) true (Ob.cells true)))) false (Ob.cells true)) ++ tNs (Row.mk (List.take (shL (List.length b)
  * 5) (List.drop 0 (gC enA b))) true (Ob.cells true)))))) true (Ob.cells true)) (0 + tLn (Row.mk (List.take (shL (List.length a) * 5) (List.drop 0 (gC enA a))) true
  (Ob.cells true)) + tLn (Row.mk (List.take (shL (List.length b) * 5) (List.drop 0 (gC enA b))) true (Ob.cells true)))))))) /\ (br (!sameI (Row.mk (List.take ((0 + tLn
  (Row.mk (List.take (shL (List.length a) * 5) (List.drop 0 (gC enA a))) true (Ob.cells true)) + tLn (Row.mk (List.take (shL (List.length b) * 5) (List.drop 0 (gC enA b)))
  true (Ob.cells true))) * 1) (List.drop 0 (iCells IntKind.i64 (dI (Row.mk (iCells IntKind.i64 ([] ++ tNs (Row.mk (List.take (shL (List.length a) * 5) (List.drop 0 (gC enA
  a))) true (Ob.cells true)))) false (Ob.cells true)) ++ tNs (Row.mk (List.take (shL (List.length b) * 5) (List.drop 0 (gC enA b))) true (Ob.cells true)))))) true (Ob.cells
  true)) (Row.mk (List.take ((0 + tLn (Row.mk (List.take (shL (List.length a) * 5) (List.drop 0 (gC enA a))) true (Ob.cells true)) + tLn (Row.mk (List.take (shL (List.length
  b) * 5) (List.drop 0 (gC enA b))) true (Ob.cells true))) * 1) (List.drop 0 (iCells IntKind.i64 (dI (Row.mk (iCells IntKind.i64 ([] ++ tNs (Row.mk (List.take (shL
  (List.length a) * 5) (List.drop 0 (gC enA a))) true (Ob.cells true)))) false (Ob.cells true)) ++ tNs (Row.mk (List.take (shL (List.length b) * 5) (List.drop 0 (gC enA b)))
  true (Ob.cells true)))))) true (Ob.cells true))) ((true = false) /\ ((Eq (α := List Value) (gC enA a) (gC enA a)) /\ ((Plain (gC enA a)) /\ ((Eq (α := List Value) (gC enA
  b) (gC enA b)) /\ ((Plain (gC enA b)) /\ True))))) (br (tHow (Row.mk (List.take (shL (List.length a) * 5) (List.drop 0 (gC enA a))) true (Ob.cells true)) == (2 : Int)) (br
  ((0 : Int) == tHow (Row.mk (List.take (shL (List.length a) * 5) (List.drop 0 (gC enA a))) true (Ob.cells true)) && ((0 : Int) == tCode (Row.mk (List.take (shL (List.length
  a) * 5) (List.drop 0 (gC enA a))) true (Ob.cells true)) && ((0 : Int) == tPos (Row.mk (List.take (shL (List.length a) * 5) (List.drop 0 (gC enA a))) true (Ob.cells true))
  && true) && true)) (((True /\ (True /\ (True /\ True)))) /\ ((true = true) /\ ((Eq (α := List Value) (gC enA a) (gC enA a)) /\ ((Plain (gC enA a)) /\ ((Eq (α := List
  Value) (gC enA b) (gC enA b)) /\ ((Plain (gC enA b)) /\ True)))))) ((true = false) /\ ((Eq (α := List Value) (gC enA a) (gC enA a)) /\ ((Plain (gC enA a)) /\ ((Eq (α :=
  List Value) (gC enA b) (gC enA b)) /\ ((Plain (gC enA b)) /\ True)))))) (br (false == (tHow (Row.mk (List.take (shL (List.length a) * 5) (List.drop 0 (gC enA a))) true
  (Ob.cells true)) == (1 : Int))) (br ((0 : Int) == tCode (Row.mk (List.take (shL (List.length a) * 5) (List.drop 0 (gC enA a))) true (Ob.cells true)) && ((0 : Int) == tPos
  (Row.mk (List.take (shL (List.length a) * 5) (List.drop 0 (gC enA a))) true (Ob.cells true)) && true)) (((True /\ (True /\ (True /\ True)))) /\ ((true = true) /\ ((Eq (α
  := List Value) (gC enA a) (gC enA a)) /\ ((Plain (gC enA a)) /\ ((Eq (α := List Value) (gC enA b) (gC enA b)) /\ ((Plain (gC enA b)) /\ True)))))) ((true = false) /\ ((Eq
  (α := List Value) (gC enA a) (gC enA a)) /\ ((Plain (gC enA a)) /\ ((Eq (α := List Value) (gC enA b) (gC enA b)) /\ ((Plain (gC enA b)) /\ True)))))) ((true = false) /\
  ((Eq (α := List Value) (gC enA a) (gC enA a)) /\ ((Plain (gC enA a)) /\ ((Eq (α := List Value) (gC enA b) (gC enA b)) /\ ((Plain (gC enA b)) /\ True))))))))) (br (tRt
  (Row.mk (List.take (shL (List.length b) * 5) (List.drop 0 (gC enA b))) true (Ob.cells true))) ((noGo (PanicEntry.mk (Value.iface 10 (Value.string dS)) true false :: reps
  10 dS (Int.toNat (tDep (Row.mk (List.take (shL (List.length b) * 5) (List.drop 0 (gC enA b))) true (Ob.cells true))))) = true) /\ (((((0 + (0 + tLn (Row.mk (List.take (shL
  (List.length a) * 5) (List.drop 0 (gC enA a))) true (Ob.cells true)) + tLn (Row.mk (List.take (shL (List.length b) * 5) (List.drop 0 (gC enA b))) true (Ob.cells true))) *
  1 <= List.length (iCells IntKind.i64 (dI (Row.mk (iCells IntKind.i64 ([] ++ tNs (Row.mk (List.take (shL (List.length a) * 5) (List.drop 0 (gC enA a))) true (Ob.cells
  true)))) false (Ob.cells true)) ++ tNs (Row.mk (List.take (shL (List.length b) * 5) (List.drop 0 (gC enA b))) true (Ob.cells true)))) /\ Plain (List.take ((0 + tLn (Row.mk
  (List.take (shL (List.length a) * 5) (List.drop 0 (gC enA a))) true (Ob.cells true)) + tLn (Row.mk (List.take (shL (List.length b) * 5) (List.drop 0 (gC enA b))) true
  (Ob.cells true))) * 1) (List.drop 0 (iCells IntKind.i64 (dI (Row.mk (iCells IntKind.i64 ([] ++ tNs (Row.mk (List.take (shL (List.length a) * 5) (List.drop 0 (gC enA a)))
  true (Ob.cells true)))) false (Ob.cells true)) ++ tNs (Row.mk (List.take (shL (List.length b) * 5) (List.drop 0 (gC enA b))) true (Ob.cells true))))))) /\ ((0 + (0 + tLn
  (Row.mk (List.take (shL (List.length a) * 5) (List.drop 0 (gC enA a))) true (Ob.cells true)) + tLn (Row.mk (List.take (shL (List.length b) * 5) (List.drop 0 (gC enA b)))
  true (Ob.cells true))) * 1 <= List.length (iCells IntKind.i64 (dI (Row.mk (iCells IntKind.i64 ([] ++ tNs (Row.mk (List.take (shL (List.length a) * 5) (List.drop 0 (gC enA
  a))) true (Ob.cells true)))) false (Ob.cells true)) ++ tNs (Row.mk (List.take (shL (List.length b) * 5) (List.drop 0 (gC enA b))) true (Ob.cells true)))) /\ Plain
  (List.take ((0 + tLn (Row.mk (List.take (shL (List.length a) * 5) (List.drop 0 (gC enA a))) true (Ob.cells true)) + tLn (Row.mk (List.take (shL (List.length b) * 5)
  (List.drop 0 (gC enA b))) true (Ob.cells true))) * 1) (List.drop 0 (iCells IntKind.i64 (dI (Row.mk (iCells IntKind.i64 ([] ++ tNs (Row.mk (List.take (shL (List.length a) *
  5) (List.drop 0 (gC enA a))) true (Ob.cells true)))) false (Ob.cells true)) ++ tNs (Row.mk (List.take (shL (List.length b) * 5) (List.drop 0 (gC enA b))) true (Ob.cells
  true))))))) /\ True)) /\ ((True /\ (True /\ True)) /\ (True /\ (IsQ (Row.mk (List.take ((0 + tLn (Row.mk (List.take (shL (List.length a) * 5) (List.drop 0 (gC enA a)))
  true (Ob.cells true)) + tLn (Row.mk (List.take (shL (List.length b) * 5) (List.drop 0 (gC enA b))) true (Ob.cells true))) * 1) (List.drop 0 (iCells IntKind.i64 (dI (Row.mk
  (iCells IntKind.i64 ([] ++ tNs (Row.mk (List.take (shL (List.length a) * 5) (List.drop 0 (gC enA a))) true (Ob.cells true)))) false (Ob.cells true)) ++ tNs (Row.mk
  (List.take (shL (List.length b) * 5) (List.drop 0 (gC enA b))) true (Ob.cells true)))))) true (Ob.cells true)) (0 + tLn (Row.mk (List.take (shL (List.length a) * 5)
  (List.drop 0 (gC enA a))) true (Ob.cells true)) + tLn (Row.mk (List.take (shL (List.length b) * 5) (List.drop 0 (gC enA b))) true (Ob.cells true))) /\ IsQ (Row.mk
  (List.take ((0 + tLn (Row.mk (List.take (shL (List.length a) * 5) (List.drop 0 (gC enA a))) true (Ob.cells true)) + tLn (Row.mk (List.take (shL (List.length b) * 5)
  (List.drop 0 (gC enA b))) true (Ob.cells true))) * 1) (List.drop 0 (iCells IntKind.i64 (dI (Row.mk (iCells IntKind.i64 ([] ++ tNs (Row.mk (List.take (shL (List.length a) *
  5) (List.drop 0 (gC enA a))) true (Ob.cells true)))) false (Ob.cells true)) ++ tNs (Row.mk (List.take (shL (List.length b) * 5) (List.drop 0 (gC enA b))) true (Ob.cells
  true)))))) true (Ob.cells true)) (0 + tLn (Row.mk (List.take (shL (List.length a) * 5) (List.drop 0 (gC enA a))) true (Ob.cells true)) + tLn (Row.mk (List.take (shL
  (List.length b) * 5) (List.drop 0 (gC enA b))) true (Ob.cells true)))))))) /\ (br (!sameI (Row.mk (List.take ((0 + tLn (Row.mk (List.take (shL (List.length a) * 5)
  (List.drop 0 (gC enA a))) true (Ob.cells true)) + tLn (Row.mk (List.take (shL (List.length b) * 5) (List.drop 0 (gC enA b))) true (Ob.cells true))) * 1) (List.drop 0
  (iCells IntKind.i64 (dI (Row.mk (iCells IntKind.i64 ([] ++ tNs (Row.mk (List.take (shL (List.length a) * 5) (List.drop 0 (gC enA a))) true (Ob.cells true)))) false
  (Ob.cells true)) ++ tNs (Row.mk (List.take (shL (List.length b) * 5) (List.drop 0 (gC enA b))) true (Ob.cells true)))))) true (Ob.cells true)) (Row.mk (List.take ((0 + tLn
  (Row.mk (List.take (shL (List.length a) * 5) (List.drop 0 (gC enA a))) true (Ob.cells true)) + tLn (Row.mk (List.take (shL (List.length b) * 5) (List.drop 0 (gC enA b)))
  true (Ob.cells true))) * 1) (List.drop 0 (iCells IntKind.i64 (dI (Row.mk (iCells IntKind.i64 ([] ++ tNs (Row.mk (List.take (shL (List.length a) * 5) (List.drop 0 (gC enA
  a))) true (Ob.cells true)))) false (Ob.cells true)) ++ tNs (Row.mk (List.take (shL (List.length b) * 5) (List.drop 0 (gC enA b))) true (Ob.cells true)))))) true (Ob.cells
  true))) ((true = false) /\ ((Eq (α := List Value) (gC enA a) (gC enA a)) /\ ((Plain (gC enA a)) /\ ((Eq (α := List Value) (gC enA b) (gC enA b)) /\ ((Plain (gC enA b)) /\
  True))))) (br (tHow (Row.mk (List.take (shL (List.length a) * 5) (List.drop 0 (gC enA a))) true (Ob.cells true)) == (2 : Int)) (br ((2 : Int) == tHow (Row.mk (List.take
  (shL (List.length a) * 5) (List.drop 0 (gC enA a))) true (Ob.cells true)) && ((0 : Int) == tCode (Row.mk (List.take (shL (List.length a) * 5) (List.drop 0 (gC enA a)))
  true (Ob.cells true)) && ((0 : Int) == tPos (Row.mk (List.take (shL (List.length a) * 5) (List.drop 0 (gC enA a))) true (Ob.cells true)) && true) && true)) (((True /\
  (True /\ (True /\ True)))) /\ ((true = true) /\ ((Eq (α := List Value) (gC enA a) (gC enA a)) /\ ((Plain (gC enA a)) /\ ((Eq (α := List Value) (gC enA b) (gC enA b)) /\
  ((Plain (gC enA b)) /\ True)))))) ((true = false) /\ ((Eq (α := List Value) (gC enA a) (gC enA a)) /\ ((Plain (gC enA a)) /\ ((Eq (α := List Value) (gC enA b) (gC enA b))
  /\ ((Plain (gC enA b)) /\ True)))))) ((true = false) /\ ((Eq (α := List Value) (gC enA a) (gC enA a)) /\ ((Plain (gC enA a)) /\ ((Eq (α := List Value) (gC enA b) (gC enA
  b)) /\ ((Plain (gC enA b)) /\ True))))))))) ((true = true) /\ (((((0 + (0 + tLn (Row.mk (List.take (shL (List.length a) * 5) (List.drop 0 (gC enA a))) true (Ob.cells
  true)) + tLn (Row.mk (List.take (shL (List.length b) * 5) (List.drop 0 (gC enA b))) true (Ob.cells true))) * 1 <= List.length (iCells IntKind.i64 (dI (Row.mk (iCells
  IntKind.i64 ([] ++ tNs (Row.mk (List.take (shL (List.length a) * 5) (List.drop 0 (gC enA a))) true (Ob.cells true)))) false (Ob.cells true)) ++ tNs (Row.mk (List.take (shL
  (List.length b) * 5) (List.drop 0 (gC enA b))) true (Ob.cells true)))) /\ Plain (List.take ((0 + tLn (Row.mk (List.take (shL (List.length a) * 5) (List.drop 0 (gC enA a)))
  true (Ob.cells true)) + tLn (Row.mk (List.take (shL (List.length b) * 5) (List.drop 0 (gC enA b))) true (Ob.cells true))) * 1) (List.drop 0 (iCells IntKind.i64 (dI (Row.mk
  (iCells IntKind.i64 ([] ++ tNs (Row.mk (List.take (shL (List.length a) * 5) (List.drop 0 (gC enA a))) true (Ob.cells true)))) false (Ob.cells true)) ++ tNs (Row.mk
  (List.take (shL (List.length b) * 5) (List.drop 0 (gC enA b))) true (Ob.cells true))))))) /\ ((0 + (0 + tLn (Row.mk (List.take (shL (List.length a) * 5) (List.drop 0 (gC
  enA a))) true (Ob.cells true)) + tLn (Row.mk (List.take (shL (List.length b) * 5) (List.drop 0 (gC enA b))) true (Ob.cells true))) * 1 <= List.length (iCells IntKind.i64
  (dI (Row.mk (iCells IntKind.i64 ([] ++ tNs (Row.mk (List.take (shL (List.length a) * 5) (List.drop 0 (gC enA a))) true (Ob.cells true)))) false (Ob.cells true)) ++ tNs
  (Row.mk (List.take (shL (List.length b) * 5) (List.drop 0 (gC enA b))) true (Ob.cells true)))) /\ Plain (List.take ((0 + tLn (Row.mk (List.take (shL (List.length a) * 5)
  (List.drop 0 (gC enA a))) true (Ob.cells true)) + tLn (Row.mk (List.take (shL (List.length b) * 5) (List.drop 0 (gC enA b))) true (Ob.cells true))) * 1) (List.drop 0
  (iCells IntKind.i64 (dI (Row.mk (iCells IntKind.i64 ([] ++ tNs (Row.mk (List.take (shL (List.length a) * 5) (List.drop 0 (gC enA a))) true (Ob.cells true)))) false
  (Ob.cells true)) ++ tNs (Row.mk (List.take (shL (List.length b) * 5) (List.drop 0 (gC enA b))) true (Ob.cells true))))))) /\ True)) /\ ((True /\ (True /\ True)) /\ (True
  /\ (IsQ (Row.mk (List.take ((0 + tLn (Row.mk (List.take (shL (List.length a) * 5) (List.drop 0 (gC enA a))) true (Ob.cells true)) + tLn (Row.mk (List.take (shL
  (List.length b) * 5) (List.drop 0 (gC enA b))) true (Ob.cells true))) * 1) (List.drop 0 (iCells IntKind.i64 (dI (Row.mk (iCells IntKind.i64 ([] ++ tNs (Row.mk (List.take
  (shL (List.length a) * 5) (List.drop 0 (gC enA a))) true (Ob.cells true)))) false (Ob.cells true)) ++ tNs (Row.mk (List.take (shL (List.length b) * 5) (List.drop 0 (gC enA
  b))) true (Ob.cells true)))))) true (Ob.cells true)) (0 + tLn (Row.mk (List.take (shL (List.length a) * 5) (List.drop 0 (gC enA a))) true (Ob.cells true)) + tLn (Row.mk
  (List.take (shL (List.length b) * 5) (List.drop 0 (gC enA b))) true (Ob.cells true))) /\ IsQ (Row.mk (List.take ((0 + tLn (Row.mk (List.take (shL (List.length a) * 5)
  (List.drop 0 (gC enA a))) true (Ob.cells true)) + tLn (Row.mk (List.take (shL (List.length b) * 5) (List.drop 0 (gC enA b))) true (Ob.cells true))) * 1) (List.drop 0
  (iCells IntKind.i64 (dI (Row.mk (iCells IntKind.i64 ([] ++ tNs (Row.mk (List.take (shL (List.length a) * 5) (List.drop 0 (gC enA a))) true (Ob.cells true)))) false
  (Ob.cells true)) ++ tNs (Row.mk (List.take (shL (List.length b) * 5) (List.drop 0 (gC enA b))) true (Ob.cells true)))))) true (Ob.cells true)) (0 + tLn (Row.mk (List.take
  (shL (List.length a) * 5) (List.drop 0 (gC enA a))) true (Ob.cells true)) + tLn (Row.mk (List.take (shL (List.length b) * 5) (List.drop 0 (gC enA b))) true (Ob.cells
  true)))))))) /\ (br (!sameI (Row.mk (List.take ((0 + tLn (Row.mk (List.take (shL (List.length a) * 5) (List.drop 0 (gC enA a))) true (Ob.cells true)) + tLn (Row.mk
  (List.take (shL (List.length b) * 5) (List.drop 0 (gC enA b))) true (Ob.cells true))) * 1) (List.drop 0 (iCells IntKind.i64 (dI (Row.mk (iCells IntKind.i64 ([] ++ tNs
  (Row.mk (List.take (shL (List.length a) * 5) (List.drop 0 (gC enA a))) true (Ob.cells true)))) false (Ob.cells true)) ++ tNs (Row.mk (List.take (shL (List.length b) * 5)
  (List.drop 0 (gC enA b))) true (Ob.cells true)))))) true (Ob.cells true)) (Row.mk (List.take ((0 + tLn (Row.mk (List.take (shL (List.length a) * 5) (List.drop 0 (gC enA
  a))) true (Ob.cells true)) + tLn (Row.mk (List.take (shL (List.length b) * 5) (List.drop 0 (gC enA b))) true (Ob.cells true))) * 1) (List.drop 0 (iCells IntKind.i64 (dI
  (Row.mk (iCells IntKind.i64 ([] ++ tNs (Row.mk (List.take (shL (List.length a) * 5) (List.drop 0 (gC enA a))) true (Ob.cells true)))) false (Ob.cells true)) ++ tNs (Row.mk
  (List.take (shL (List.length b) * 5) (List.drop 0 (gC enA b))) true (Ob.cells true)))))) true (Ob.cells true))) ((true = false) /\ ((Eq (α := List Value) (gC enA a) (gC
  enA a)) /\ ((Plain (gC enA a)) /\ ((Eq (α := List Value) (gC enA b) (gC enA b)) /\ ((Plain (gC enA b)) /\ True))))) (br (tHow (Row.mk (List.take (shL (List.length a) * 5)
  (List.drop 0 (gC enA a))) true (Ob.cells true)) == (2 : Int)) (br ((0 : Int) == tHow (Row.mk (List.take (shL (List.length a) * 5) (List.drop 0 (gC enA a))) true (Ob.cells
  true)) && ((0 : Int) == tCode (Row.mk (List.take (shL (List.length a) * 5) (List.drop 0 (gC enA a))) true (Ob.cells true)) && ((0 : Int) == tPos (Row.mk (List.take (shL
  (List.length a) * 5) (List.drop 0 (gC enA a))) true (Ob.cells true)) && true) && true)) (((True /\ (True /\ (True /\ True)))) /\ ((true = true) /\ ((Eq (α := List Value)
  (gC enA a) (gC enA a)) /\ ((Plain (gC enA a)) /\ ((Eq (α := List Value) (gC enA b) (gC enA b)) /\ ((Plain (gC enA b)) /\ True)))))) ((true = false) /\ ((Eq (α := List
  Value) (gC enA a) (gC enA a)) /\ ((Plain (gC enA a)) /\ ((Eq (α := List Value) (gC enA b) (gC enA b)) /\ ((Plain (gC enA b)) /\ True)))))) (br (true == (tHow (Row.mk
  (List.take (shL (List.length a) * 5) (List.drop 0 (gC enA a))) true (Ob.cells true)) == (1 : Int))) (br (tCode (Row.mk (List.take (shL (List.length b) * 5) (List.drop 0
  (gC enA b))) true (Ob.cells true)) == tCode (Row.mk (List.take (shL (List.length a) * 5) (List.drop 0 (gC enA a))) true (Ob.cells true)) && (tPos (Row.mk (List.take (shL
  (List.length b) * 5) (List.drop 0 (gC enA b))) true (Ob.cells true)) == tPos (Row.mk (List.take (shL (List.length a) * 5) (List.drop 0 (gC enA a))) true (Ob.cells true))
  && true)) (((True /\ (True /\ (True /\ True)))) /\ ((true = true) /\ ((Eq (α := List Value) (gC enA a) (gC enA a)) /\ ((Plain (gC enA a)) /\ ((Eq (α := List Value) (gC enA
  b) (gC enA b)) /\ ((Plain (gC enA b)) /\ True)))))) ((true = false) /\ ((Eq (α := List Value) (gC enA a) (gC enA a)) /\ ((Plain (gC enA a)) /\ ((Eq (α := List Value) (gC
  enA b) (gC enA b)) /\ ((Plain (gC enA b)) /\ True)))))) ((true = false) /\ ((Eq (α := List Value) (gC enA a) (gC enA a)) /\ ((Plain (gC enA a)) /\ ((Eq (α := List Value)
  (gC enA b) (gC enA b)) /\ ((Plain (gC enA b)) /\ True)))))))))))))) (br (tRt (Row.mk (List.take (shL (List.length a) * 5) (List.drop 0 (gC enA a))) true (Ob.cells true)))
  (((((0 + List.length b * 5 <= List.length (gC enA b) /\ Plain (List.take (List.length b * 5) (List.drop 0 (gC enA b)))) /\ True) /\ ((True /\ True) /\ (True /\ IsL (Row.mk
  (List.take (List.length b * 5) (List.drop 0 (gC enA b))) true (Ob.cells true)) (List.length b))))) /\ (((((0 + shL (List.length b) * 5 <= List.length (gC enA b) /\ Plain
  (List.take (shL (List.length b) * 5) (List.drop 0 (gC enA b)))) /\ (True /\ True)) /\ ((True /\ ((True /\ True) /\ (Plain (iCells IntKind.i64 ([] ++ tNs (Row.mk (List.take
  (shL (List.length a) * 5) (List.drop 0 (gC enA a))) true (Ob.cells true)))) /\ True))) /\ ((Plain (iCells IntKind.i64 (dI (Row.mk (iCells IntKind.i64 ([] ++ tNs (Row.mk
  (List.take (shL (List.length a) * 5) (List.drop 0 (gC enA a))) true (Ob.cells true)))) false (Ob.cells true)) ++ tNs (Row.mk (List.take (shL (List.length b) * 5)
  (List.drop 0 (gC enA b))) true (Ob.cells true)))) /\ True) /\ (IsA 41 (Row.mk (List.take (shL (List.length b) * 5) (List.drop 0 (gC enA b))) true (Ob.cells true)) (shL
  (List.length b)) (0 + tLn (Row.mk (List.take (shL (List.length a) * 5) (List.drop 0 (gC enA a))) true (Ob.cells true))) /\ IsZ (Row.mk (iCells IntKind.i64 ([] ++ tNs
  (Row.mk (List.take (shL (List.length a) * 5) (List.drop 0 (gC enA a))) true (Ob.cells true)))) false (Ob.cells true)) (0 + tLn (Row.mk (List.take (shL (List.length a) * 5)
  (List.drop 0 (gC enA a))) true (Ob.cells true)))))))) /\ (br (tOk (Row.mk (List.take (shL (List.length b) * 5) (List.drop 0 (gC enA b))) true (Ob.cells true))) ((noGo
  (PanicEntry.mk (Value.iface 10 (Value.string dS)) true false :: reps 10 dS (Int.toNat (tDep (Row.mk (List.take (shL (List.length a) * 5) (List.drop 0 (gC enA a))) true
  (Ob.cells true))))) = true) /\ (((((0 + (0 + tLn (Row.mk (List.take (shL (List.length a) * 5) (List.drop 0 (gC enA a))) true (Ob.cells true)) + tLn (Row.mk (List.take (shL
  (List.length b) * 5) (List.drop 0 (gC enA b))) true (Ob.cells true))) * 1 <= List.length (iCells IntKind.i64 (dI (Row.mk (iCells IntKind.i64 ([] ++ tNs (Row.mk (List.take
  (shL (List.length a) * 5) (List.drop 0 (gC enA a))) true (Ob.cells true)))) false (Ob.cells true)) ++ tNs (Row.mk (List.take (shL (List.length b) * 5) (List.drop 0 (gC enA
  b))) true (Ob.cells true)))) /\ Plain (List.take ((0 + tLn (Row.mk (List.take (shL (List.length a) * 5) (List.drop 0 (gC enA a))) true (Ob.cells true)) + tLn (Row.mk
  (List.take (shL (List.length b) * 5) (List.drop 0 (gC enA b))) true (Ob.cells true))) * 1) (List.drop 0 (iCells IntKind.i64 (dI (Row.mk (iCells IntKind.i64 ([] ++ tNs
  (Row.mk (List.take (shL (List.length a) * 5) (List.drop 0 (gC enA a))) true (Ob.cells true)))) false (Ob.cells true)) ++ tNs (Row.mk (List.take (shL (List.length b) * 5)
  (List.drop 0 (gC enA b))) true (Ob.cells true))))))) /\ ((0 + (0 + tLn (Row.mk (List.take (shL (List.length a) * 5) (List.drop 0 (gC enA a))) true (Ob.cells true)) + tLn
  (Row.mk (List.take (shL (List.length b) * 5) (List.drop 0 (gC enA b))) true (Ob.cells true))) * 1 <= List.length (iCells IntKind.i64 (dI (Row.mk (iCells IntKind.i64 ([] ++
  tNs (Row.mk (List.take (shL (List.length a) * 5) (List.drop 0 (gC enA a))) true (Ob.cells true)))) false (Ob.cells true)) ++ tNs (Row.mk (List.take (shL (List.length b) *
  5) (List.drop 0 (gC enA b))) true (Ob.cells true)))) /\ Plain (List.take ((0 + tLn (Row.mk (List.take (shL (List.length a) * 5) (List.drop 0 (gC enA a))) true (Ob.cells
  true)) + tLn (Row.mk (List.take (shL (List.length b) * 5) (List.drop 0 (gC enA b))) true (Ob.cells true))) * 1) (List.drop 0 (iCells IntKind.i64 (dI (Row.mk (iCells
  IntKind.i64 ([] ++ tNs (Row.mk (List.take (shL (List.length a) * 5) (List.drop 0 (gC enA a))) true (Ob.cells true)))) false (Ob.cells true)) ++ tNs (Row.mk (List.take (shL
  (List.length b) * 5) (List.drop 0 (gC enA b))) true (Ob.cells true))))))) /\ True)) /\ ((True /\ (True /\ True)) /\ (True /\ (IsQ (Row.mk (List.take ((0 + tLn (Row.mk
  (List.take (shL (List.length a) * 5) (List.drop 0 (gC enA a))) true (Ob.cells true)) + tLn (Row.mk (List.take (shL (List.length b) * 5) (List.drop 0 (gC enA b))) true
  (Ob.cells true))) * 1) (List.drop 0 (iCells IntKind.i64 (dI (Row.mk (iCells IntKind.i64 ([] ++ tNs (Row.mk (List.take (shL (List.length a) * 5) (List.drop 0 (gC enA a)))
  true (Ob.cells true)))) false (Ob.cells true)) ++ tNs (Row.mk (List.take (shL (List.length b) * 5) (List.drop 0 (gC enA b))) true (Ob.cells true)))))) true (Ob.cells
  true)) (0 + tLn (Row.mk (List.take (shL (List.length a) * 5) (List.drop 0 (gC enA a))) true (Ob.cells true)) + tLn (Row.mk (List.take (shL (List.length b) * 5) (List.drop
  0 (gC enA b))) true (Ob.cells true))) /\ IsQ (Row.mk (List.take ((0 + tLn (Row.mk (List.take (shL (List.length a) * 5) (List.drop 0 (gC enA a))) true (Ob.cells true)) +
  tLn (Row.mk (List.take (shL (List.length b) * 5) (List.drop 0 (gC enA b))) true (Ob.cells true))) * 1) (List.drop 0 (iCells IntKind.i64 (dI (Row.mk (iCells IntKind.i64 ([]
  ++ tNs (Row.mk (List.take (shL (List.length a) * 5) (List.drop 0 (gC enA a))) true (Ob.cells true)))) false (Ob.cells true)) ++ tNs (Row.mk (List.take (shL (List.length b)
  * 5) (List.drop 0 (gC enA b))) true (Ob.cells true)))))) true (Ob.cells true)) (0 + tLn (Row.mk (List.take (shL (List.length a) * 5) (List.drop 0 (gC enA a))) true
  (Ob.cells true)) + tLn (Row.mk (List.take (shL (List.length b) * 5) (List.drop 0 (gC enA b))) true (Ob.cells true)))))))) /\ (br (!sameI (Row.mk (List.take ((0 + tLn
  (Row.mk (List.take (shL (List.length a) * 5) (List.drop 0 (gC enA a))) true (Ob.cells true)) + tLn (Row.mk (List.take (shL (List.length b) * 5) (List.drop 0 (gC enA b)))
  true (Ob.cells true))) * 1) (List.drop 0 (iCells IntKind.i64 (dI (Row.mk (iCells IntKind.i64 ([] ++ tNs (Row.mk (List.take (shL (List.length a) * 5) (List.drop 0 (gC enA
  a))) true (Ob.cells true)))) false (Ob.cells true)) ++ tNs (Row.mk (List.take (shL (List.length b) * 5) (List.drop 0 (gC enA b))) true (Ob.cells true)))))) true (Ob.cells
  true)) (Row.mk (List.take ((0 + tLn (Row.mk (List.take (shL (List.length a) * 5) (List.drop 0 (gC enA a))) true (Ob.cells true)) + tLn (Row.mk (List.take (shL (List.length
  b) * 5) (List.drop 0 (gC enA b))) true (Ob.cells true))) * 1) (List.drop 0 (iCells IntKind.i64 (dI (Row.mk (iCells IntKind.i64 ([] ++ tNs (Row.mk (List.take (shL
  (List.length a) * 5) (List.drop 0 (gC enA a))) true (Ob.cells true)))) false (Ob.cells true)) ++ tNs (Row.mk (List.take (shL (List.length b) * 5) (List.drop 0 (gC enA b)))
  true (Ob.cells true)))))) true (Ob.cells true))) ((true = false) /\ ((Eq (α := List Value) (gC enA a) (gC enA a)) /\ ((Plain (gC enA a)) /\ ((Eq (α := List Value) (gC enA
  b) (gC enA b)) /\ ((Plain (gC enA b)) /\ True))))) (br (tHow (Row.mk (List.take (shL (List.length a) * 5) (List.drop 0 (gC enA a))) true (Ob.cells true)) == (2 : Int)) (br
  ((2 : Int) == tHow (Row.mk (List.take (shL (List.length a) * 5) (List.drop 0 (gC enA a))) true (Ob.cells true)) && ((0 : Int) == tCode (Row.mk (List.take (shL (List.length
  a) * 5) (List.drop 0 (gC enA a))) true (Ob.cells true)) && ((0 : Int) == tPos (Row.mk (List.take (shL (List.length a) * 5) (List.drop 0 (gC enA a))) true (Ob.cells true))
  && true) && true)) (((True /\ (True /\ (True /\ True)))) /\ ((true = true) /\ ((Eq (α := List Value) (gC enA a) (gC enA a)) /\ ((Plain (gC enA a)) /\ ((Eq (α := List
  Value) (gC enA b) (gC enA b)) /\ ((Plain (gC enA b)) /\ True)))))) ((true = false) /\ ((Eq (α := List Value) (gC enA a) (gC enA a)) /\ ((Plain (gC enA a)) /\ ((Eq (α :=
  List Value) (gC enA b) (gC enA b)) /\ ((Plain (gC enA b)) /\ True)))))) ((true = false) /\ ((Eq (α := List Value) (gC enA a) (gC enA a)) /\ ((Plain (gC enA a)) /\ ((Eq (α
  := List Value) (gC enA b) (gC enA b)) /\ ((Plain (gC enA b)) /\ True))))))))) (br (tRt (Row.mk (List.take (shL (List.length b) * 5) (List.drop 0 (gC enA b))) true
  (Ob.cells true))) ((noGo (PanicEntry.mk (Value.iface 10 (Value.string dS)) true false :: (reps 10 dS (Int.toNat (tDep (Row.mk (List.take (shL (List.length b) * 5)
  (List.drop 0 (gC enA b))) true (Ob.cells true)))) ++ PanicEntry.mk (Value.iface 10 (Value.string dS)) false false :: reps 10 dS (Int.toNat (tDep (Row.mk (List.take (shL
  (List.length a) * 5) (List.drop 0 (gC enA a))) true (Ob.cells true)))))) = true) /\ (((((0 + (0 + tLn (Row.mk (List.take (shL (List.length a) * 5) (List.drop 0 (gC enA
  a))) true (Ob.cells true)) + tLn (Row.mk (List.take (shL (List.length b) * 5) (List.drop 0 (gC enA b))) true (Ob.cells true))) * 1 <= List.length (iCells IntKind.i64 (dI
  (Row.mk (iCells IntKind.i64 ([] ++ tNs (Row.mk (List.take (shL (List.length a) * 5) (List.drop 0 (gC enA a))) true (Ob.cells true)))) false (Ob.cells true)) ++ tNs (Row.mk
  (List.take (shL (List.length b) * 5) (List.drop 0 (gC enA b))) true (Ob.cells true)))) /\ Plain (List.take ((0 + tLn (Row.mk (List.take (shL (List.length a) * 5)
  (List.drop 0 (gC enA a))) true (Ob.cells true)) + tLn (Row.mk (List.take (shL (List.length b) * 5) (List.drop 0 (gC enA b))) true (Ob.cells true))) * 1) (List.drop 0
  (iCells IntKind.i64 (dI (Row.mk (iCells IntKind.i64 ([] ++ tNs (Row.mk (List.take (shL (List.length a) * 5) (List.drop 0 (gC enA a))) true (Ob.cells true)))) false
  (Ob.cells true)) ++ tNs (Row.mk (List.take (shL (List.length b) * 5) (List.drop 0 (gC enA b))) true (Ob.cells true))))))) /\ ((0 + (0 + tLn (Row.mk (List.take (shL
  (List.length a) * 5) (List.drop 0 (gC enA a))) true (Ob.cells true)) + tLn (Row.mk (List.take (shL (List.length b) * 5) (List.drop 0 (gC enA b))) true (Ob.cells true))) *
  1 <= List.length (iCells IntKind.i64 (dI (Row.mk (iCells IntKind.i64 ([] ++ tNs (Row.mk (List.take (shL (List.length a) * 5) (List.drop 0 (gC enA a))) true (Ob.cells
  true)))) false (Ob.cells true)) ++ tNs (Row.mk (List.take (shL (List.length b) * 5) (List.drop 0 (gC enA b))) true (Ob.cells true)))) /\ Plain (List.take ((0 + tLn (Row.mk
  (List.take (shL (List.length a) * 5) (List.drop 0 (gC enA a))) true (Ob.cells true)) + tLn (Row.mk (List.take (shL (List.length b) * 5) (List.drop 0 (gC enA b))) true
  (Ob.cells true))) * 1) (List.drop 0 (iCells IntKind.i64 (dI (Row.mk (iCells IntKind.i64 ([] ++ tNs (Row.mk (List.take (shL (List.length a) * 5) (List.drop 0 (gC enA a)))
  true (Ob.cells true)))) false (Ob.cells true)) ++ tNs (Row.mk (List.take (shL (List.length b) * 5) (List.drop 0 (gC enA b))) true (Ob.cells true))))))) /\ True)) /\ ((True
  /\ (True /\ True)) /\ (True /\ (IsQ (Row.mk (List.take ((0 + tLn (Row.mk (List.take (shL (List.length a) * 5) (List.drop 0 (gC enA a))) true (Ob.cells true)) + tLn (Row.mk
  (List.take (shL (List.length b) * 5) (List.drop 0 (gC enA b))) true (Ob.cells true))) * 1) (List.drop 0 (iCells IntKind.i64 (dI (Row.mk (iCells IntKind.i64 ([] ++ tNs
  (Row.mk (List.take (shL (List.length a) * 5) (List.drop 0 (gC enA a))) true (Ob.cells true)))) false (Ob.cells true)) ++ tNs (Row.mk (List.take (shL (List.length b) * 5)
  (List.drop 0 (gC enA b))) true (Ob.cells true)))))) true (Ob.cells true)) (0 + tLn (Row.mk (List.take (shL (List.length a) * 5) (List.drop 0 (gC enA a))) true (Ob.cells
  true)) + tLn (Row.mk (List.take (shL (List.length b) * 5) (List.drop 0 (gC enA b))) true (Ob.cells true))) /\ IsQ (Row.mk (List.take ((0 + tLn (Row.mk (List.take (shL
  (List.length a) * 5) (List.drop 0 (gC enA a))) true (Ob.cells true)) + tLn (Row.mk (List.take (shL (List.length b) * 5) (List.drop 0 (gC enA b))) true (Ob.cells true))) *
  1) (List.drop 0 (iCells IntKind.i64 (dI (Row.mk (iCells IntKind.i64 ([] ++ tNs (Row.mk (List.take (shL (List.length a) * 5) (List.drop 0 (gC enA a))) true (Ob.cells
  true)))) false (Ob.cells true)) ++ tNs (Row.mk (List.take (shL (List.length b) * 5) (List.drop 0 (gC enA b))) true (Ob.cells true)))))) true (Ob.cells true)) (0 + tLn
  (Row.mk (List.take (shL (List.length a) * 5) (List.drop 0 (gC enA a))) true (Ob.cells true)) + tLn (Row.mk (List.take (shL (List.length b) * 5) (List.drop 0 (gC enA b)))
  true (Ob.cells true)))))))) /\ (br (!sameI (Row.mk (List.take ((0 + tLn (Row.mk (List.take (shL (List.length a) * 5) (List.drop 0 (gC enA a))) true (Ob.cells true)) + tLn
  (Row.mk (List.take (shL (List.length b) * 5) (List.drop 0 (gC enA b))) true (Ob.cells true))) * 1) (List.drop 0 (iCells IntKind.i64 (dI (Row.mk (iCells IntKind.i64 ([] ++
  tNs (Row.mk (List.take (shL (List.length a) * 5) (List.drop 0 (gC enA a))) true (Ob.cells true)))) false (Ob.cells true)) ++ tNs (Row.mk (List.take (shL (List.length b) *
  5) (List.drop 0 (gC enA b))) true (Ob.cells true)))))) true (Ob.cells true)) (Row.mk (List.take ((0 + tLn (Row.mk (List.take (shL (List.length a) * 5) (List.drop 0 (gC enA
  a))) true (Ob.cells true)) + tLn (Row.mk (List.take (shL (List.length b) * 5) (List.drop 0 (gC enA b))) true (Ob.cells true))) * 1) (List.drop 0 (iCells IntKind.i64 (dI
  (Row.mk (iCells IntKind.i64 ([] ++ tNs (Row.mk (List.take (shL (List.length a) * 5) (List.drop 0 (gC enA a))) true (Ob.cells true)))) false (Ob.cells true)) ++ tNs (Row.mk
  (List.take (shL (List.length b) * 5) (List.drop 0 (gC enA b))) true (Ob.cells true)))))) true (Ob.cells true))) ((true = false) /\ ((Eq (α := List Value) (gC enA a) (gC
  enA a)) /\ ((Plain (gC enA a)) /\ ((Eq (α := List Value) (gC enA b) (gC enA b)) /\ ((Plain (gC enA b)) /\ True))))) (br (tHow (Row.mk (List.take (shL (List.length a) * 5)
  (List.drop 0 (gC enA a))) true (Ob.cells true)) == (2 : Int)) (br ((2 : Int) == tHow (Row.mk (List.take (shL (List.length a) * 5) (List.drop 0 (gC enA a))) true (Ob.cells
  true)) && ((0 : Int) == tCode (Row.mk (List.take (shL (List.length a) * 5) (List.drop 0 (gC enA a))) true (Ob.cells true)) && ((0 : Int) == tPos (Row.mk (List.take (shL
  (List.length a) * 5) (List.drop 0 (gC enA a))) true (Ob.cells true)) && true) && true)) (((True /\ (True /\ (True /\ True)))) /\ ((true = true) /\ ((Eq (α := List Value)
  (gC enA a) (gC enA a)) /\ ((Plain (gC enA a)) /\ ((Eq (α := List Value) (gC enA b) (gC enA b)) /\ ((Plain (gC enA b)) /\ True)))))) ((true = false) /\ ((Eq (α := List
  Value) (gC enA a) (gC enA a)) /\ ((Plain (gC enA a)) /\ ((Eq (α := List Value) (gC enA b) (gC enA b)) /\ ((Plain (gC enA b)) /\ True)))))) ((true = false) /\ ((Eq (α :=
  List Value) (gC enA a) (gC enA a)) /\ ((Plain (gC enA a)) /\ ((Eq (α := List Value) (gC enA b) (gC enA b)) /\ ((Plain (gC enA b)) /\ True))))))))) ((noGo (PanicEntry.mk
  (Value.iface 10 (Value.string dS)) false false :: reps 10 dS (Int.toNat (tDep (Row.mk (List.take (shL (List.length a) * 5) (List.drop 0 (gC enA a))) true (Ob.cells
  true))))) = true) /\ (((((0 + (0 + tLn (Row.mk (List.take (shL (List.length a) * 5) (List.drop 0 (gC enA a))) true (Ob.cells true)) + tLn (Row.mk (List.take (shL
  (List.length b) * 5) (List.drop 0 (gC enA b))) true (Ob.cells true))) * 1 <= List.length (iCells IntKind.i64 (dI (Row.mk (iCells IntKind.i64 ([] ++ tNs (Row.mk (List.take
  (shL (List.length a) * 5) (List.drop 0 (gC enA a))) true (Ob.cells true)))) false (Ob.cells true)) ++ tNs (Row.mk (List.take (shL (List.length b) * 5) (List.drop 0 (gC enA
  b))) true (Ob.cells true)))) /\ Plain (List.take ((0 + tLn (Row.mk (List.take (shL (List.length a) * 5) (List.drop 0 (gC enA a))) true (Ob.cells true)) + tLn (Row.mk
  (List.take (shL (List.length b) * 5) (List.drop 0 (gC enA b))) true (Ob.cells true))) * 1) (List.drop 0 (iCells IntKind.i64 (dI (Row.mk (iCells IntKind.i64 ([] ++ tNs
  (Row.mk (List.take (shL (List.length a) * 5) (List.drop 0 (gC enA a))) true (Ob.cells true)))) false (Ob.cells true)) ++ tNs (Row.mk (List.take (shL (List.length b) * 5)
  (List.drop 0 (gC enA b))) true (Ob.cells true))))))) /\ ((0 + (0 + tLn (Row.mk (List.take (shL (List.length a) * 5) (List.drop 0 (gC enA a))) true (Ob.cells true)) + tLn
  (Row.mk (List.take (shL (List.length b) * 5) (List.drop 0 (gC enA b))) true (Ob.cells true))) * 1 <= List.length (iCells IntKind.i64 (dI (Row.mk (iCells IntKind.i64 ([] ++
  tNs (Row.mk (List.take (shL (List.length a) * 5) (List.drop 0 (gC enA a))) true (Ob.cells true)))) false (Ob.cells true)) ++ tNs (Row.mk (List.take (shL (List.length b) *
  5) (List.drop 0 (gC enA b))) true (Ob.cells true)))) /\ Plain (List.take ((0 + tLn (Row.mk (List.take (shL (List.length a) * 5) (List.drop 0 (gC enA a))) true (Ob.cells
  true)) + tLn (Row.mk (List.take (shL (List.length b) * 5) (List.drop 0 (gC enA b))) true (Ob.cells true))) * 1) (List.drop 0 (iCells IntKind.i64 (dI (Row.mk (iCells
  IntKind.i64 ([] ++ tNs (Row.mk (List.take (shL (List.length a) * 5) (List.drop 0 (gC enA a))) true (Ob.cells true)))) false (Ob.cells true)) ++ tNs (Row.mk (List.take (shL
  (List.length b) * 5) (List.drop 0 (gC enA b))) true (Ob.cells true))))))) /\ True)) /\ ((True /\ (True /\ True)) /\ (True /\ (IsQ (Row.mk (List.take ((0 + tLn (Row.mk
  (List.take (shL (List.length a) * 5) (List.drop 0 (gC enA a))) true (Ob.cells true)) + tLn (Row.mk (List.take (shL (List.length b) * 5) (List.drop 0 (gC enA b))) true
  (Ob.cells true))) * 1) (List.drop 0 (iCells IntKind.i64 (dI (Row.mk (iCells IntKind.i64 ([] ++ tNs (Row.mk (List.take (shL (List.length a) * 5) (List.drop 0 (gC enA a)))
  true (Ob.cells true)))) false (Ob.cells true)) ++ tNs (Row.mk (List.take (shL (List.length b) * 5) (List.drop 0 (gC enA b))) true (Ob.cells true)))))) true (Ob.cells
  true)) (0 + tLn (Row.mk (List.take (shL (List.length a) * 5) (List.drop 0 (gC enA a))) true (Ob.cells true)) + tLn (Row.mk (List.take (shL (List.length b) * 5) (List.drop
  0 (gC enA b))) true (Ob.cells true))) /\ IsQ (Row.mk (List.take ((0 + tLn (Row.mk (List.take (shL (List.length a) * 5) (List.drop 0 (gC enA a))) true (Ob.cells true)) +
  tLn (Row.mk (List.take (shL (List.length b) * 5) (List.drop 0 (gC enA b))) true (Ob.cells true))) * 1) (List.drop 0 (iCells IntKind.i64 (dI (Row.mk (iCells IntKind.i64 ([]
  ++ tNs (Row.mk (List.take (shL (List.length a) * 5) (List.drop 0 (gC enA a))) true (Ob.cells true)))) false (Ob.cells true)) ++ tNs (Row.mk (List.take (shL (List.length b)
  * 5) (List.drop 0 (gC enA b))) true (Ob.cells true)))))) true (Ob.cells true)) (0 + tLn (Row.mk (List.take (shL (List.length a) * 5) (List.drop 0 (gC enA a))) true
  (Ob.cells true)) + tLn (Row.mk (List.take (shL (List.length b) * 5) (List.drop 0 (gC enA b))) true (Ob.cells true)))))))) /\ (br (!sameI (Row.mk (List.take ((0 + tLn
  (Row.mk (List.take (shL (List.length a) * 5) (List.drop 0 (gC enA a))) true (Ob.cells true)) + tLn (Row.mk (List.take (shL (List.length b) * 5) (List.drop 0 (gC enA b)))
  true (Ob.cells true))) * 1) (List.drop 0 (iCells IntKind.i64 (dI (Row.mk (iCells IntKind.i64 ([] ++ tNs (Row.mk (List.take (shL (List.length a) * 5) (List.drop 0 (gC enA
  a))) true (Ob.cells true)))) false (Ob.cells true)) ++ tNs (Row.mk (List.take (shL (List.length b) * 5) (List.drop 0 (gC enA b))) true (Ob.cells true)))))) true (Ob.cells
  true)) (Row.mk (List.take ((0 + tLn (Row.mk (List.take (shL (List.length a) * 5) (List.drop 0 (gC enA a))) true (Ob.cells true)) + tLn (Row.mk (List.take (shL (List.length
  b) * 5) (List.drop 0 (gC enA b))) true (Ob.cells true))) * 1) (List.drop 0 (iCells IntKind.i64 (dI (Row.mk (iCells IntKind.i64 ([] ++ tNs (Row.mk (List.take (shL
  (List.length a) * 5) (List.drop 0 (gC enA a))) true (Ob.cells true)))) false (Ob.cells true)) ++ tNs (Row.mk (List.take (shL (List.length b) * 5) (List.drop 0 (gC enA b)))
  true (Ob.cells true)))))) true (Ob.cells true))) ((true = false) /\ ((Eq (α := List Value) (gC enA a) (gC enA a)) /\ ((Plain (gC enA a)) /\ ((Eq (α := List Value) (gC enA
  b) (gC enA b)) /\ ((Plain (gC enA b)) /\ True))))) (br (tHow (Row.mk (List.take (shL (List.length a) * 5) (List.drop 0 (gC enA a))) true (Ob.cells true)) == (2 : Int)) (br
  ((0 : Int) == tHow (Row.mk (List.take (shL (List.length a) * 5) (List.drop 0 (gC enA a))) true (Ob.cells true)) && ((0 : Int) == tCode (Row.mk (List.take (shL (List.length
  a) * 5) (List.drop 0 (gC enA a))) true (Ob.cells true)) && ((0 : Int) == tPos (Row.mk (List.take (shL (List.length a) * 5) (List.drop 0 (gC enA a))) true (Ob.cells true))
  && true) && true)) (((True /\ (True /\ (True /\ True)))) /\ ((true = true) /\ ((Eq (α := List Value) (gC enA a) (gC enA a)) /\ ((Plain (gC enA a)) /\ ((Eq (α := List
  Value) (gC enA b) (gC enA b)) /\ ((Plain (gC enA b)) /\ True)))))) ((true = false) /\ ((Eq (α := List Value) (gC enA a) (gC enA a)) /\ ((Plain (gC enA a)) /\ ((Eq (α :=
  List Value) (gC enA b) (gC enA b)) /\ ((Plain (gC enA b)) /\ True)))))) (br (true == (tHow (Row.mk (List.take (shL (List.length a) * 5) (List.drop 0 (gC enA a))) true
  (Ob.cells true)) == (1 : Int))) (br (tCode (Row.mk (List.take (shL (List.length b) * 5) (List.drop 0 (gC enA b))) true (Ob.cells true)) == tCode (Row.mk (List.take (shL
  (List.length a) * 5) (List.drop 0 (gC enA a))) true (Ob.cells true)) && (tPos (Row.mk (List.take (shL (List.length b) * 5) (List.drop 0 (gC enA b))) true (Ob.cells true))
  == tPos (Row.mk (List.take (shL (List.length a) * 5) (List.drop 0 (gC enA a))) true (Ob.cells true)) && true)) (((True /\ (True /\ (True /\ True)))) /\ ((true = true) /\
  ((Eq (α := List Value) (gC enA a) (gC enA a)) /\ ((Plain (gC enA a)) /\ ((Eq (α := List Value) (gC enA b) (gC enA b)) /\ ((Plain (gC enA b)) /\ True)))))) ((true = false)
  /\ ((Eq (α := List Value) (gC enA a) (gC enA a)) /\ ((Plain (gC enA a)) /\ ((Eq (α := List Value) (gC enA b) (gC enA b)) /\ ((Plain (gC enA b)) /\ True)))))) ((true =
  false) /\ ((Eq (α := List Value) (gC enA a) (gC enA a)) /\ ((Plain (gC enA a)) /\ ((Eq (α := List Value) (gC enA b) (gC enA b)) /\ ((Plain (gC enA b)) /\
  True)))))))))))))) (((((0 + List.length b * 5 <= List.length (gC enA b) /\ Plain (List.take (List.length b * 5) (List.drop 0 (gC enA b)))) /\ True) /\ ((True /\ True) /\
  (True /\ IsL (Row.mk (List.take (List.length b * 5) (List.drop 0 (gC enA b))) true (Ob.cells true)) (List.length b))))) /\ (((((0 + shL (List.length b) * 5 <= List.length
  (gC enA b) /\ Plain (List.take (shL (List.length b) * 5) (List.drop 0 (gC enA b)))) /\ (True /\ True)) /\ ((True /\ ((True /\ True) /\ (Plain (iCells IntKind.i64 ([] ++
  tNs (Row.mk (List.take (shL (List.length a) * 5) (List.drop 0 (gC enA a))) true (Ob.cells true)))) /\ True))) /\ ((Plain (iCells IntKind.i64 (dI (Row.mk (iCells
  IntKind.i64 ([] ++ tNs (Row.mk (List.take (shL (List.length a) * 5) (List.drop 0 (gC enA a))) true (Ob.cells true)))) false (Ob.cells true)) ++ tNs (Row.mk (List.take (shL
  (List.length b) * 5) (List.drop 0 (gC enA b))) true (Ob.cells true)))) /\ True) /\ (IsA 41 (Row.mk (List.take (shL (List.length b) * 5) (List.drop 0 (gC enA b))) true
  (Ob.cells true)) (shL (List.length b)) (0 + tLn (Row.mk (List.take (shL (List.length a) * 5) (List.drop 0 (gC enA a))) true (Ob.cells true))) /\ IsZ (Row.mk (iCells
  IntKind.i64 ([] ++ tNs (Row.mk (List.take (shL (List.length a) * 5) (List.drop 0 (gC enA a))) true (Ob.cells true)))) false (Ob.cells true)) (0 + tLn (Row.mk (List.take
  (shL (List.length a) * 5) (List.drop 0 (gC enA a))) true (Ob.cells true)))))))) /\ (br (tOk (Row.mk (List.take (shL (List.length b) * 5) (List.drop 0 (gC enA b))) true
  (Ob.cells true))) ((true = true) /\ (((((0 + (0 + tLn (Row.mk (List.take (shL (List.length a) * 5) (List.drop 0 (gC enA a))) true (Ob.cells true)) + tLn (Row.mk (List.take
  (shL (List.length b) * 5) (List.drop 0 (gC enA b))) true (Ob.cells true))) * 1 <= List.length (iCells IntKind.i64 (dI (Row.mk (iCells IntKind.i64 ([] ++ tNs (Row.mk
  (List.take (shL (List.length a) * 5) (List.drop 0 (gC enA a))) true (Ob.cells true)))) false (Ob.cells true)) ++ tNs (Row.mk (List.take (shL (List.length b) * 5)
  (List.drop 0 (gC enA b))) true (Ob.cells true)))) /\ Plain (List.take ((0 + tLn (Row.mk (List.take (shL (List.length a) * 5) (List.drop 0 (gC enA a))) true (Ob.cells
  true)) + tLn (Row.mk (List.take (shL (List.length b) * 5) (List.drop 0 (gC enA b))) true (Ob.cells true))) * 1) (List.drop 0 (iCells IntKind.i64 (dI (Row.mk (iCells
  IntKind.i64 ([] ++ tNs (Row.mk (List.take (shL (List.length a) * 5) (List.drop 0 (gC enA a))) true (Ob.cells true)))) false (Ob.cells true)) ++ tNs (Row.mk (List.take (shL
  (List.length b) * 5) (List.drop 0 (gC enA b))) true (Ob.cells true))))))) /\ ((0 + (0 + tLn (Row.mk (List.take (shL (List.length a) * 5) (List.drop 0 (gC enA a))) true
  (Ob.cells true)) + tLn (Row.mk (List.take (shL (List.length b) * 5) (List.drop 0 (gC enA b))) true (Ob.cells true))) * 1 <= List.length (iCells IntKind.i64 (dI (Row.mk
  (iCells IntKind.i64 ([] ++ tNs (Row.mk (List.take (shL (List.length a) * 5) (List.drop 0 (gC enA a))) true (Ob.cells true)))) false (Ob.cells true)) ++ tNs (Row.mk
  (List.take (shL (List.length b) * 5) (List.drop 0 (gC enA b))) true (Ob.cells true)))) /\ Plain (List.take ((0 + tLn (Row.mk (List.take (shL (List.length a) * 5)
  (List.drop 0 (gC enA a))) true (Ob.cells true)) + tLn (Row.mk (List.take (shL (List.length b) * 5) (List.drop 0 (gC enA b))) true (Ob.cells true))) * 1) (List.drop 0
  (iCells IntKind.i64 (dI (Row.mk (iCells IntKind.i64 ([] ++ tNs (Row.mk (List.take (shL (List.length a) * 5) (List.drop 0 (gC enA a))) true (Ob.cells true)))) false
  (Ob.cells true)) ++ tNs (Row.mk (List.take (shL (List.length b) * 5) (List.drop 0 (gC enA b))) true (Ob.cells true))))))) /\ True)) /\ ((True /\ (True /\ True)) /\ (True
  /\ (IsQ (Row.mk (List.take ((0 + tLn (Row.mk (List.take (shL (List.length a) * 5) (List.drop 0 (gC enA a))) true (Ob.cells true)) + tLn (Row.mk (List.take (shL
  (List.length b) * 5) (List.drop 0 (gC enA b))) true (Ob.cells true))) * 1) (List.drop 0 (iCells IntKind.i64 (dI (Row.mk (iCells IntKind.i64 ([] ++ tNs (Row.mk (List.take
  (shL (List.length a) * 5) (List.drop 0 (gC enA a))) true (Ob.cells true)))) false (Ob.cells true)) ++ tNs (Row.mk (List.take (shL (List.length b) * 5) (List.drop 0 (gC enA
  b))) true (Ob.cells true)))))) true (Ob.cells true)) (0 + tLn (Row.mk (List.take (shL (List.length a) * 5) (List.drop 0 (gC enA a))) true (Ob.cells true)) + tLn (Row.mk
  (List.take (shL (List.length b) * 5) (List.drop 0 (gC enA b))) true (Ob.cells true))) /\ IsQ (Row.mk (List.take ((0 + tLn (Row.mk (List.take (shL (List.length a) * 5)
  (List.drop 0 (gC enA a))) true (Ob.cells true)) + tLn (Row.mk (List.take (shL (List.length b) * 5) (List.drop 0 (gC enA b))) true (Ob.cells true))) * 1) (List.drop 0
  (iCells IntKind.i64 (dI (Row.mk (iCells IntKind.i64 ([] ++ tNs (Row.mk (List.take (shL (List.length a) * 5) (List.drop 0 (gC enA a))) true (Ob.cells true)))) false
  (Ob.cells true)) ++ tNs (Row.mk (List.take (shL (List.length b) * 5) (List.drop 0 (gC enA b))) true (Ob.cells true)))))) true (Ob.cells true)) (0 + tLn (Row.mk (List.take
  (shL (List.length a) * 5) (List.drop 0 (gC enA a))) true (Ob.cells true)) + tLn (Row.mk (List.take (shL (List.length b) * 5) (List.drop 0 (gC enA b))) true (Ob.cells
  true)))))))) /\ (br (!sameI (Row.mk (List.take ((0 + tLn (Row.mk (List.take (shL (List.length a) * 5) (List.drop 0 (gC enA a))) true (Ob.cells true)) + tLn (Row.mk
  (List.take (shL (List.length b) * 5) (List.drop 0 (gC enA b))) true (Ob.cells true))) * 1) (List.drop 0 (iCells IntKind.i64 (dI (Row.mk (iCells IntKind.i64 ([] ++ tNs
  (Row.mk (List.take (shL (List.length a) * 5) (List.drop 0 (gC enA a))) true (Ob.cells true)))) false (Ob.cells true)) ++ tNs (Row.mk (List.take (shL (List.length b) * 5)
  (List.drop 0 (gC enA b))) true (Ob.cells true)))))) true (Ob.cells true)) (Row.mk (List.take ((0 + tLn (Row.mk (List.take (shL (List.length a) * 5) (List.drop 0 (gC enA
  a))) true (Ob.cells true)) + tLn (Row.mk (List.take (shL (List.length b) * 5) (List.drop 0 (gC enA b))) true (Ob.cells true))) * 1) (List.drop 0 (iCells IntKind.i64 (dI
  (Row.mk (iCells IntKind.i64 ([] ++ tNs (Row.mk (List.take (shL (List.length a) * 5) (List.drop 0 (gC enA a))) true (Ob.cells true)))) false (Ob.cells true)) ++ tNs (Row.mk
  (List.take (shL (List.length b) * 5) (List.drop 0 (gC enA b))) true (Ob.cells true)))))) true (Ob.cells true))) ((true = false) /\ ((Eq (α := List Value) (gC enA a) (gC
  enA a)) /\ ((Plain (gC enA a)) /\ ((Eq (α := List Value) (gC enA b) (gC enA b)) /\ ((Plain (gC enA b)) /\ True))))) (br (tHow (Row.mk (List.take (shL (List.length a) * 5)
  (List.drop 0 (gC enA a))) true (Ob.cells true)) == (2 : Int)) (br ((0 : Int) == tHow (Row.mk (List.take (shL (List.length a) * 5) (List.drop 0 (gC enA a))) true (Ob.cells
  true)) && ((0 : Int) == tCode (Row.mk (List.take (shL (List.length a) * 5) (List.drop 0 (gC enA a))) true (Ob.cells true)) && ((0 : Int) == tPos (Row.mk (List.take (shL
  (List.length a) * 5) (List.drop 0 (gC enA a))) true (Ob.cells true)) && true) && true)) (((True /\ (True /\ (True /\ True)))) /\ ((true = true) /\ ((Eq (α := List Value)
  (gC enA a) (gC enA a)) /\ ((Plain (gC enA a)) /\ ((Eq (α := List Value) (gC enA b) (gC enA b)) /\ ((Plain (gC enA b)) /\ True)))))) ((true = false) /\ ((Eq (α := List
  Value) (gC enA a) (gC enA a)) /\ ((Plain (gC enA a)) /\ ((Eq (α := List Value) (gC enA b) (gC enA b)) /\ ((Plain (gC enA b)) /\ True)))))) (br (true == (tHow (Row.mk
  (List.take (shL (List.length a) * 5) (List.drop 0 (gC enA a))) true (Ob.cells true)) == (1 : Int))) (br (tCode (Row.mk (List.take (shL (List.length a) * 5) (List.drop 0
  (gC enA a))) true (Ob.cells true)) == tCode (Row.mk (List.take (shL (List.length a) * 5) (List.drop 0 (gC enA a))) true (Ob.cells true)) && (tPos (Row.mk (List.take (shL
  (List.length a) * 5) (List.drop 0 (gC enA a))) true (Ob.cells true)) == tPos (Row.mk (List.take (shL (List.length a) * 5) (List.drop 0 (gC enA a))) true (Ob.cells true))
  && true)) (((True /\ (True /\ (True /\ True)))) /\ ((true = true) /\ ((Eq (α := List Value) (gC enA a) (gC enA a)) /\ ((Plain (gC enA a)) /\ ((Eq (α := List Value) (gC enA
  b) (gC enA b)) /\ ((Plain (gC enA b)) /\ True)))))) ((true = false) /\ ((Eq (α := List Value) (gC enA a) (gC enA a)) /\ ((Plain (gC enA a)) /\ ((Eq (α := List Value) (gC
  enA b) (gC enA b)) /\ ((Plain (gC enA b)) /\ True)))))) ((true = false) /\ ((Eq (α := List Value) (gC enA a) (gC enA a)) /\ ((Plain (gC enA a)) /\ ((Eq (α := List Value)
  (gC enA b) (gC enA b)) /\ ((Plain (gC enA b)) /\ True)))))))))) (br (tRt (Row.mk (List.take (shL (List.length b) * 5) (List.drop 0 (gC enA b))) true (Ob.cells true)))
  ((noGo (PanicEntry.mk (Value.iface 10 (Value.string dS)) true false :: (reps 10 dS (Int.toNat (tDep (Row.mk (List.take (shL (List.length b) * 5) (List.drop 0 (gC enA b)))
  true (Ob.cells true)))) ++ [PanicEntry.mk (Value.iface 23 (Value.agg (Array.mk [Value.int IntKind.i64 (tCode (Row.mk (List.take (shL (List.length a) * 5) (List.drop 0 (gC
  enA a))) true (Ob.cells true))), Value.int IntKind.i64 (tPos (Row.mk (List.take (shL (List.length a) * 5) (List.drop 0 (gC enA a))) true (Ob.cells true)))]))) false
  false])) = true) /\ (((((0 + (0 + tLn (Row.mk (List.take (shL (List.length a) * 5) (List.drop 0 (gC enA a))) true (Ob.cells true)) + tLn (Row.mk (List.take (shL
  (List.length b) * 5) (List.drop 0 (gC enA b))) true (Ob.cells true))) * 1 <= List.length (iCells IntKind.i64 (dI (Row.mk (iCells IntKind.i64 ([] ++ tNs (Row.mk (List.take
  (shL (List.length a) * 5) (List.drop 0 (gC enA a))) true (Ob.cells true)))) false (Ob.cells true)) ++ tNs (Row.mk (List.take (shL (List.length b) * 5) (List.drop 0 (gC enA
  b))) true (Ob.cells true)))) /\ Plain (List.take ((0 + tLn (Row.mk (List.take (shL (List.length a) * 5) (List.drop 0 (gC enA a))) true (Ob.cells true)) + tLn (Row.mk
  (List.take (shL (List.length b) * 5) (List.drop 0 (gC enA b))) true (Ob.cells true))) * 1) (List.drop 0 (iCells IntKind.i64 (dI (Row.mk (iCells IntKind.i64 ([] ++ tNs
  (Row.mk (List.take (shL (List.length a) * 5) (List.drop 0 (gC enA a))) true (Ob.cells true)))) false (Ob.cells true)) ++ tNs (Row.mk (List.take (shL (List.length b) * 5)
  (List.drop 0 (gC enA b))) true (Ob.cells true))))))) /\ ((0 + (0 + tLn (Row.mk (List.take (shL (List.length a) * 5) (List.drop 0 (gC enA a))) true (Ob.cells true)) + tLn
  (Row.mk (List.take (shL (List.length b) * 5) (List.drop 0 (gC enA b))) true (Ob.cells true))) * 1 <= List.length (iCells IntKind.i64 (dI (Row.mk (iCells IntKind.i64 ([] ++
  tNs (Row.mk (List.take (shL (List.length a) * 5) (List.drop 0 (gC enA a))) true (Ob.cells true)))) false (Ob.cells true)) ++ tNs (Row.mk (List.take (shL (List.length b) *
  5) (List.drop 0 (gC enA b))) true (Ob.cells true)))) /\ Plain (List.take ((0 + tLn (Row.mk (List.take (shL (List.length a) * 5) (List.drop 0 (gC enA a))) true (Ob.cells
  true)) + tLn (Row.mk (List.take (shL (List.length b) * 5) (List.drop 0 (gC enA b))) true (Ob.cells true))) * 1) (List.drop 0 (iCells IntKind.i64 (dI (Row.mk (iCells
  IntKind.i64 ([] ++ tNs (Row.mk (List.take (shL (List.length a) * 5) (List.drop 0 (gC enA a))) true (Ob.cells true)))) false (Ob.cells true)) ++ tNs (Row.mk (List.take (shL
  (List.length b) * 5) (List.drop 0 (gC enA b))) true (Ob.cells true))))))) /\ True)) /\ ((True /\ (True /\ True)) /\ (True /\ (IsQ (Row.mk (List.take ((0 + tLn (Row.mk
  (List.take (shL (List.length a) * 5) (List.drop 0 (gC enA a))) true (Ob.cells true)) + tLn (Row.mk (List.take (shL (List.length b) * 5) (List.drop 0 (gC enA b))) true
  (Ob.cells true))) * 1) (List.drop 0 (iCells IntKind.i64 (dI (Row.mk (iCells IntKind.i64 ([] ++ tNs (Row.mk (List.take (shL (List.length a) * 5) (List.drop 0 (gC enA a)))
  true (Ob.cells true)))) false (Ob.cells true)) ++ tNs (Row.mk (List.take (shL (List.length b) * 5) (List.drop 0 (gC enA b))) true (Ob.cells true)))))) true (Ob.cells
  true)) (0 + tLn (Row.mk (List.take (shL (List.length a) * 5) (List.drop 0 (gC enA a))) true (Ob.cells true)) + tLn (Row.mk (List.take (shL (List.length b) * 5) (List.drop
  0 (gC enA b))) true (Ob.cells true))) /\ IsQ (Row.mk (List.take ((0 + tLn (Row.mk (List.take (shL (List.length a) * 5) (List.drop 0 (gC enA a))) true (Ob.cells true)) +
  tLn (Row.mk (List.take (shL (List.length b) * 5) (List.drop 0 (gC enA b))) true (Ob.cells true))) * 1) (List.drop 0 (iCells IntKind.i64 (dI (Row.mk (iCells IntKind.i64 ([]
  ++ tNs (Row.mk (List.take (shL (List.length a) * 5) (List.drop 0 (gC enA a))) true (Ob.cells true)))) false (Ob.cells true)) ++ tNs (Row.mk (List.take (shL (List.length b)
  * 5) (List.drop 0 (gC enA b))) true (Ob.cells true)))))) true (Ob.cells true)) (0 + tLn (Row.mk (List.take (shL (List.length a) * 5) (List.drop 0 (gC enA a))) true
  (Ob.cells true)) + tLn (Row.mk (List.take (shL (List.length b) * 5) (List.drop 0 (gC enA b))) true (Ob.cells true)))))))) /\ (br (!sameI (Row.mk (List.take ((0 + tLn
  (Row.mk (List.take (shL (List.length a) * 5) (List.drop 0 (gC enA a))) true (Ob.cells true)) + tLn (Row.mk (List.take (shL (List.length b) * 5) (List.drop 0 (gC enA b)))
  true (Ob.cells true))) * 1) (List.drop 0 (iCells IntKind.i64 (dI (Row.mk (iCells IntKind.i64 ([] ++ tNs (Row.mk (List.take (shL (List.length a) * 5) (List.drop 0 (gC enA
  a))) true (Ob.cells true)))) false (Ob.cells true)) ++ tNs (Row.mk (List.take (shL (List.length b) * 5) (List.drop 0 (gC enA b))) true (Ob.cells true)))))) true (Ob.cells
  true)) (Row.mk (List.take ((0 + tLn (Row.mk (List.take (shL (List.length a) * 5) (List.drop 0 (gC enA a))) true (Ob.cells true)) + tLn (Row.mk (List.take (shL (List.length
  b) * 5) (List.drop 0 (gC enA b))) true (Ob.cells true))) * 1) (List.drop 0 (iCells IntKind.i64 (dI (Row.mk (iCells IntKind.i64 ([] ++ tNs (Row.mk (List.take (shL
  (List.length a) * 5) (List.drop 0 (gC enA a))) true (Ob.cells true)))) false (Ob.cells true)) ++ tNs (Row.mk (List.take (shL (List.length b) * 5) (List.drop 0 (gC enA b)))
  true (Ob.cells true)))))) true (Ob.cells true))) ((true = false) /\ ((Eq (α := List Value) (gC enA a) (gC enA a)) /\ ((Plain (gC enA a)) /\ ((Eq (α := List Value) (gC enA
  b) (gC enA b)) /\ ((Plain (gC enA b)) /\ True))))) (br (tHow (Row.mk (List.take (shL (List.length a) * 5) (List.drop 0 (gC enA a))) true (Ob.cells true)) == (2 : Int)) (br
  ((2 : Int) == tHow (Row.mk (List.take (shL (List.length a) * 5) (List.drop 0 (gC enA a))) true (Ob.cells true)) && ((0 : Int) == tCode (Row.mk (List.take (shL (List.length
  a) * 5) (List.drop 0 (gC enA a))) true (Ob.cells true)) && ((0 : Int) == tPos (Row.mk (List.take (shL (List.length a) * 5) (List.drop 0 (gC enA a))) true (Ob.cells true))
  && true) && true)) (((True /\ (True /\ (True /\ True)))) /\ ((true = true) /\ ((Eq (α := List Value) (gC enA a) (gC enA a)) /\ ((Plain (gC enA a)) /\ ((Eq (α := List
  Value) (gC enA b) (gC enA b)) /\ ((Plain (gC enA b)) /\ True)))))) ((true = false) /\ ((Eq (α := List Value) (gC enA a) (gC enA a)) /\ ((Plain (gC enA a)) /\ ((Eq (α :=
  List Value) (gC enA b) (gC enA b)) /\ ((Plain (gC enA b)) /\ True)))))) ((true = false) /\ ((Eq (α := List Value) (gC enA a) (gC enA a)) /\ ((Plain (gC enA a)) /\ ((Eq (α
  := List Value) (gC enA b) (gC enA b)) /\ ((Plain (gC enA b)) /\ True))))))))) ((true = true) /\ (((((0 + (0 + tLn (Row.mk (List.take (shL (List.length a) * 5) (List.drop 0
  (gC enA a))) true (Ob.cells true)) + tLn (Row.mk (List.take (shL (List.length b) * 5) (List.drop 0 (gC enA b))) true (Ob.cells true))) * 1 <= List.length (iCells
  IntKind.i64 (dI (Row.mk (iCells IntKind.i64 ([] ++ tNs (Row.mk (List.take (shL (List.length a) * 5) (List.drop 0 (gC enA a))) true (Ob.cells true)))) false (Ob.cells
  true)) ++ tNs (Row.mk (List.take (shL (List.length b) * 5) (List.drop 0 (gC enA b))) true (Ob.cells true)))) /\ Plain (List.take ((0 + tLn (Row.mk (List.take (shL
  (List.length a) * 5) (List.drop 0 (gC enA a))) true (Ob.cells true)) + tLn (Row.mk (List.take (shL (List.length b) * 5) (List.drop 0 (gC enA b))) true (Ob.cells true))) *
  1) (List.drop 0 (iCells IntKind.i64 (dI (Row.mk (iCells IntKind.i64 ([] ++ tNs (Row.mk (List.take (shL (List.length a) * 5) (List.drop 0 (gC enA a))) true (Ob.cells
  true)))) false (Ob.cells true)) ++ tNs (Row.mk (List.take (shL (List.length b) * 5) (List.drop 0 (gC enA b))) true (Ob.cells true))))))) /\ ((0 + (0 + tLn (Row.mk
  (List.take (shL (List.length a) * 5) (List.drop 0 (gC enA a))) true (Ob.cells true)) + tLn (Row.mk (List.take (shL (List.length b) * 5) (List.drop 0 (gC enA b))) true
  (Ob.cells true))) * 1 <= List.length (iCells IntKind.i64 (dI (Row.mk (iCells IntKind.i64 ([] ++ tNs (Row.mk (List.take (shL (List.length a) * 5) (List.drop 0 (gC enA a)))
  true (Ob.cells true)))) false (Ob.cells true)) ++ tNs (Row.mk (List.take (shL (List.length b) * 5) (List.drop 0 (gC enA b))) true (Ob.cells true)))) /\ Plain (List.take
  ((0 + tLn (Row.mk (List.take (shL (List.length a) * 5) (List.drop 0 (gC enA a))) true (Ob.cells true)) + tLn (Row.mk (List.take (shL (List.length b) * 5) (List.drop 0 (gC
  enA b))) true (Ob.cells true))) * 1) (List.drop 0 (iCells IntKind.i64 (dI (Row.mk (iCells IntKind.i64 ([] ++ tNs (Row.mk (List.take (shL (List.length a) * 5) (List.drop 0
  (gC enA a))) true (Ob.cells true)))) false (Ob.cells true)) ++ tNs (Row.mk (List.take (shL (List.length b) * 5) (List.drop 0 (gC enA b))) true (Ob.cells true))))))) /\
  True)) /\ ((True /\ (True /\ True)) /\ (True /\ (IsQ (Row.mk (List.take ((0 + tLn (Row.mk (List.take (shL (List.length a) * 5) (List.drop 0 (gC enA a))) true (Ob.cells
  true)) + tLn (Row.mk (List.take (shL (List.length b) * 5) (List.drop 0 (gC enA b))) true (Ob.cells true))) * 1) (List.drop 0 (iCells IntKind.i64 (dI (Row.mk (iCells
  IntKind.i64 ([] ++ tNs (Row.mk (List.take (shL (List.length a) * 5) (List.drop 0 (gC enA a))) true (Ob.cells true)))) false (Ob.cells true)) ++ tNs (Row.mk (List.take (shL
  (List.length b) * 5) (List.drop 0 (gC enA b))) true (Ob.cells true)))))) true (Ob.cells true)) (0 + tLn (Row.mk (List.take (shL (List.length a) * 5) (List.drop 0 (gC enA
  a))) true (Ob.cells true)) + tLn (Row.mk (List.take (shL (List.length b) * 5) (List.drop 0 (gC enA b))) true (Ob.cells true))) /\ IsQ (Row.mk (List.take ((0 + tLn (Row.mk
  (List.take (shL (List.length a) * 5) (List.drop 0 (gC enA a))) true (Ob.cells true)) + tLn (Row.mk (List.take (shL (List.length b) * 5) (List.drop 0 (gC enA b))) true
  (Ob.cells true))) * 1) (List.drop 0 (iCells IntKind.i64 (dI (Row.mk (iCells IntKind.i64 ([] ++ tNs (Row.mk (List.take (shL (List.length a) * 5) (List.drop 0 (gC enA a)))
  true (Ob.cells true)))) false (Ob.cells true)) ++ tNs (Row.mk (List.take (shL (List.length b) * 5) (List.drop 0 (gC enA b))) true (Ob.cells true)))))) true (Ob.cells
  true)) (0 + tLn (Row.mk (List.take (shL (List.length a) * 5) (List.drop 0 (gC enA a))) true (Ob.cells true)) + tLn (Row.mk (List.take (shL (List.length b) * 5) (List.drop
  0 (gC enA b))) true (Ob.cells true)))))))) /\ (br (!sameI (Row.mk (List.take ((0 + tLn (Row.mk (List.take (shL (List.length a) * 5) (List.drop 0 (gC enA a))) true
  (Ob.cells true)) + tLn (Row.mk (List.take (shL (List.length b) * 5) (List.drop 0 (gC enA b))) true (Ob.cells true))) * 1) (List.drop 0 (iCells IntKind.i64 (dI (Row.mk
  (iCells IntKind.i64 ([] ++ tNs (Row.mk (List.take (shL (List.length a) * 5) (List.drop 0 (gC enA a))) true (Ob.cells true)))) false (Ob.cells true)) ++ tNs (Row.mk
  (List.take (shL (List.length b) * 5) (List.drop 0 (gC enA b))) true (Ob.cells true)))))) true (Ob.cells true)) (Row.mk (List.take ((0 + tLn (Row.mk (List.take (shL
  (List.length a) * 5) (List.drop 0 (gC enA a))) true (Ob.cells true)) + tLn (Row.mk (List.take (shL (List.length b) * 5) (List.drop 0 (gC enA b))) true (Ob.cells true))) *
  1) (List.drop 0 (iCells IntKind.i64 (dI (Row.mk (iCells IntKind.i64 ([] ++ tNs (Row.mk (List.take (shL (List.length a) * 5) (List.drop 0 (gC enA a))) true (Ob.cells
  true)))) false (Ob.cells true)) ++ tNs (Row.mk (List.take (shL (List.length b) * 5) (List.drop 0 (gC enA b))) true (Ob.cells true)))))) true (Ob.cells true))) ((true =
  false) /\ ((Eq (α := List Value) (gC enA a) (gC enA a)) /\ ((Plain (gC enA a)) /\ ((Eq (α := List Value) (gC enA b) (gC enA b)) /\ ((Plain (gC enA b)) /\ True))))) (br
  (tHow (Row.mk (List.take (shL (List.length a) * 5) (List.drop 0 (gC enA a))) true (Ob.cells true)) == (2 : Int)) (br ((0 : Int) == tHow (Row.mk (List.take (shL
  (List.length a) * 5) (List.drop 0 (gC enA a))) true (Ob.cells true)) && ((0 : Int) == tCode (Row.mk (List.take (shL (List.length a) * 5) (List.drop 0 (gC enA a))) true
  (Ob.cells true)) && ((0 : Int) == tPos (Row.mk (List.take (shL (List.length a) * 5) (List.drop 0 (gC enA a))) true (Ob.cells true)) && true) && true)) (((True /\ (True /\
  (True /\ True)))) /\ ((true = true) /\ ((Eq (α := List Value) (gC enA a) (gC enA a)) /\ ((Plain (gC enA a)) /\ ((Eq (α := List Value) (gC enA b) (gC enA b)) /\ ((Plain (gC
  enA b)) /\ True)))))) ((true = false) /\ ((Eq (α := List Value) (gC enA a) (gC enA a)) /\ ((Plain (gC enA a)) /\ ((Eq (α := List Value) (gC enA b) (gC enA b)) /\ ((Plain
  (gC enA b)) /\ True)))))) (br (true == (tHow (Row.mk (List.take (shL (List.length a) * 5) (List.drop 0 (gC enA a))) true (Ob.cells true)) == (1 : Int))) (br (tCode (Row.mk
  (List.take (shL (List.length b) * 5) (List.drop 0 (gC enA b))) true (Ob.cells true)) == tCode (Row.mk (List.take (shL (List.length a) * 5) (List.drop 0 (gC enA a))) true
  (Ob.cells true)) && (tPos (Row.mk (List.take (shL (List.length b) * 5) (List.drop 0 (gC enA b))) true (Ob.cells true)) == tPos (Row.mk (List.take (shL (List.length a) * 5)
  (List.drop 0 (gC enA a))) true (Ob.cells true)) && true)) (((True /\ (True /\ (True /\ True)))) /\ ((true = true) /\ ((Eq (α := List Value) (gC enA a) (gC enA a)) /\
  ((Plain (gC enA a)) /\ ((Eq (α := List Value) (gC enA b) (gC enA b)) /\ ((Plain (gC enA b)) /\ True)))))) ((true = false) /\ ((Eq (α := List Value) (gC enA a) (gC enA a))
  /\ ((Plain (gC enA a)) /\ ((Eq (α := List Value) (gC enA b) (gC enA b)) /\ ((Plain (gC enA b)) /\ True)))))) ((true = false) /\ ((Eq (α := List Value) (gC enA a) (gC enA
  a)) /\ ((Plain (gC enA a)) /\ ((Eq (α := List Value) (gC enA b) (gC enA b)) /\ ((Plain (gC enA b)) /\ True))))))))))))))))))))))) := by kernel_rfl
theorem tGl_ok : ∀ x ∈ tGl, EntOk Try.prog x := all_cons (eTo_ok 41) (all_cons (ePl_ok 41) (all_cons eSame_ok (all_cons eRunsP_ok (all_cons eSh_ok all_nil))))
set_option maxHeartbeats 2000000 in
theorem gl_law (a b : List Ac) (hl : a.length ≤ maxLen) (ha : ∀ x ∈ a, OkA x) (hl2 : b.length ≤ maxLen) (hb : ∀ x ∈ b, OkA x) : Con Try.prog 6 [.slice (some ⟨0, 0, none⟩) a.length 5, .slice (some ⟨1, 0, none⟩) b.length 5] [gRo enA a, gRo enA b] (.bool true) [gRo enA a, gRo enA b] := by
  refine con_vc (E := EGl) mixed (calls_envTd tGl_ok) (lok_envTd _ _ _) (M := noM) lm_none (Gl_vc a b) ?_
  have e3 : ∀ (l : List Ac) (k : Nat), (gC enA l).take (k * 5) = gC enA (l.take k) := fun l k => gC_take (en := enA) (k := 5) (fun _ => rfl) l k
  have e4 : dI ⟨[], false, .cells true⟩ = [] := rfl
  have e5 : ∀ x : List Int, (iCells .i64 x).take x.length = iCells .i64 x := fun x => List.take_of_length_le (by rw [iCells_len]; omega)
  have ea : (a.take (shL a.length)).length = shL a.length := by rw [List.length_take, z_shL]; omega
  have eb : (b.take (shL b.length)).length = shL b.length := by rw [List.length_take, z_shL]; omega
  have ma : shL a.length ≤ 12 := by rw [z_shL]; omega
  have mb : shL b.length ≤ 12 := by rw [z_shL]; omega
  have ha' : ∀ x ∈ a.take (shL a.length), OkA x := fun x h => ha x (List.mem_of_mem_take h)
  have hb' : ∀ x ∈ b.take (shL b.length), OkA x := fun x h => hb x (List.mem_of_mem_take h)
  simp only [ofNat_eq, toNat_cast, Nat.zero_add, Nat.add_zero, Nat.mul_one, List.drop_zero, bCells_len, bCells_drop, bCells_take, bCells_app, bCells_one, bCells_plain, List.length_replicate, List.length_append, List.length_take, List.length_drop, List.take_length, and_true, true_and, and_self, decide_true, List.length_nil, List.length_cons, Nat.sub_zero, dB_mk, dB_ro, List.take_zero, e3, e4, aPl, aLen, iCells_plain, iCells_len, z_tOk, z_tRt, z_tHow, z_tDep, z_tLn, z_tNs, z_tCode, z_tPos, z_same, noGo_reps, dI_mk, List.nil_append, true_and, and_true]
  have lA : IsL ⟨gC enA a, true, .cells true⟩ a.length := ⟨a, rfl, rfl⟩
  have lB : IsL ⟨gC enA b, true, .cells true⟩ b.length := ⟨b, rfl, rfl⟩
  have ha0 : shL a.length ≤ a.length := by rw [z_shL]; omega
  have hb0 : shL b.length ≤ b.length := by rw [z_shL]; omega
  generalize a.take (shL a.length) = A at *
  generalize b.take (shL b.length) = B at *
  generalize shL a.length = n at *
  generalize shL b.length = m at *
  have na := tl_len _ A (Nat.le_refl _)
  have nb := tl_len _ B (Nat.le_refl _)
  have pn : Plain [] := fun v hv => by simp at hv
  have i1 : IsA 41 ⟨gC enA A, true, .cells true⟩ n 0 := ⟨A, rfl, ea.symm, by omega, ha', by omega⟩
  have i2 : IsZ ⟨[], false, .cells true⟩ 0 := ⟨[], rfl, rfl⟩
  have i3 : IsA 41 ⟨gC enA B, true, .cells true⟩ m (tl A).ns.length := ⟨B, rfl, eb.symm, by omega, hb', by omega⟩
  have i4 : IsZ ⟨iCells .i64 (tl A).ns, false, .cells true⟩ (tl A).ns.length := ⟨_, rfl, rfl⟩
  have e6 : (iCells .i64 ((tl A).ns ++ (tl B).ns)).take ((tl A).ns.length + (tl B).ns.length) = iCells .i64 ((tl A).ns ++ (tl B).ns) := List.take_of_length_le (by rw [iCells_len, List.length_append]; omega)
  have i5 : IsQ ⟨iCells .i64 ((tl A).ns ++ (tl B).ns), true, .cells true⟩ ((tl A).ns.length + (tl B).ns.length) := ⟨_, rfl, by rw [List.length_append], by rw [List.length_append]; unfold maxLen; omega⟩
  have ln : n * 5 ≤ a.length * 5 := by have := ha0; omega
  have lm : m * 5 ≤ b.length * 5 := by have := hb0; omega
  have ng : ∀ (v : Value) (r : Bool) (l : List PanicEntry), noGo (⟨v, r, false⟩ :: l) = noGo l := fun _ _ _ => rfl
  have ng2 : ∀ (n : Nat) (l : List PanicEntry), noGo (reps 10 dS n ++ l) = noGo l := fun n l => by
    have := noGo_reps 10 dS n
    unfold noGo at this ⊢
    rw [List.all_append, this, Bool.true_and]
  have ng3 : noGo [] = true := rfl
  simp only [ng2, ng3, lA, lB, pn, i1, i2, i3, i4, e6, i5, ln, lm, ng, iCells_plain, z_same, noGo_reps, Nat.le_refl, decide_true, Bool.not_true, Bool.false_eq_true, true_and, and_true]
  have zA := tl_zero _ A (Nat.le_refl _)
  have zB := tl_zero _ B (Nat.le_refl _)
  have tA := tl_two _ A (Nat.le_refl _)
  have tB := tl_two _ B (Nat.le_refl _)
  generalize (tl A).how = hA at *
  generalize (tl B).how = hB at *
  generalize (tl A).code = cA at *
  generalize (tl B).code = cB at *
  generalize (tl A).pos = pA at *
  generalize (tl B).pos = pB at *
  clear i1 i2 i3 i4 e6 i5 ln lm ha hb ha' hb' lA lB na nb e3 e4 e5 ng ng2 ng3 ea eb ma mb ha0 hb0 pn hl hl2
  rcases zA with ⟨rfl, rfl, rfl⟩ | rfl | rfl
  · clear tA
    rcases zB with ⟨rfl, rfl, rfl⟩ | rfl | rfl
    · clear tB; simp [br_iff]
    · clear tB; simp [br_iff]
    · obtain ⟨rfl, rfl⟩ := tB rfl; simp [br_iff]
  · clear tA
    rcases zB with ⟨rfl, rfl, rfl⟩ | rfl | rfl
    · clear tB; simp [br_iff]
    · clear tB; simp [br_iff]
    · obtain ⟨rfl, rfl⟩ := tB rfl; simp [br_iff]
  · obtain ⟨rfl, rfl⟩ := tA rfl
    clear tA
    rcases zB with ⟨rfl, rfl, rfl⟩ | rfl | rfl
    · clear tB; simp [br_iff]
    · clear tB; simp [br_iff]
    · obtain ⟨rfl, rfl⟩ := tB rfl; simp [br_iff]
end Go.Proofs.Ytekijelmdajhlaa.gp
