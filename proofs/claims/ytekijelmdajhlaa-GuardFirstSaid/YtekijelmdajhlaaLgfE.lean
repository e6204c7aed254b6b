/- GuardFirst: the functions gathered, and called: seven and eight of them. -/
import Derived.Test.YtekijelmdajhlaaSz9
import Derived.Test.YtekijelmdajhlaaRows
import Derived.Test.YtekijelmdajhlaaLgfC
set_option linter.unusedSimpArgs false
set_option linter.unusedVariables false
namespace Go.Proofs.Ytekijelmdajhlaa.gp
open Go Go.Ev Go.Sy Go.RowKit Go.Proofs.Ytekijelmdajhlaa.gl Go.Proofs.Ytekijelmdajhlaa.tk Go.Proofs.Ytekijelmdajhlaa.ic Go.Proofs.Ytekijelmdajhlaa.gm
set_option maxHeartbeats 4000000 in
theorem G7_vc (rr : List (List Ac)) : mlG rr 7 (Sy.endsIn 1 130 (wsG rr)) =
  (∃ g : List (List Ac), ((PF (GF.mk g 7)) /\ ((0 = 0) /\ ((0 = 0) /\ ((0 = 0) /\ (((-1 : Int) = (-1 : Int)) /\ ((0 = 0) /\ (((0 : Int) = (0 : Int)) /\ ((Eq (α := List
  Value) (gC enR g) (gC enR rr)) /\ ((Plain (gC enR g)) /\ ((0 = 0) /\ ((7 = 7) /\ (((0 : Int) = (0 : Int)) /\ (((0 : Int) = (0 : Int)) /\ (((0 : Int) = (0 : Int)) /\ ((Eq
  (α := List Value) ([]) ([])) /\ (∀ (y : FR), ((y = ftl (subs (GF.mk g 7)) 0) → ((((True /\ (True /\ (True /\ True))) /\ ((((7 <= List.length (gC enR g) /\ Plain (List.take
  7 (List.drop 0 (gC enR g)))) /\ True) /\ ((True /\ True) /\ ((True /\ True) /\ (True /\ (Plain [] /\ True))))) /\ ((Plain (iCells IntKind.i64 ([] ++ vNs (Row.mk (List.take
  7 (List.drop 0 (gC enR g))) true (Ob.cells true)) (0 : Int))) /\ True) /\ (IsF (Row.mk (List.take 7 (List.drop 0 (gC enR g))) true (Ob.cells true)) 7 (0 : Int) 0 /\ IsZ
  (Row.mk [] false (Ob.cells true)) 0))))) /\ (br (vOk (Row.mk (List.take 7 (List.drop 0 (gC enR g))) true (Ob.cells true)) (0 : Int)) ((((True /\ (True /\ (True /\ True)))
  /\ ((((7 <= List.length (gC enR g) /\ Plain (List.take 7 (List.drop 0 (gC enR g)))) /\ True) /\ ((True /\ True) /\ ((True /\ True) /\ (True /\ (Plain (iCells IntKind.i64
  ([] ++ vNs (Row.mk (List.take 7 (List.drop 0 (gC enR g))) true (Ob.cells true)) (0 : Int))) /\ True))))) /\ ((Plain (iCells IntKind.i64 (dI (Row.mk (iCells IntKind.i64 ([]
  ++ vNs (Row.mk (List.take 7 (List.drop 0 (gC enR g))) true (Ob.cells true)) (0 : Int))) false (Ob.cells true)) ++ vNs (Row.mk (List.take 7 (List.drop 0 (gC enR g))) true
  (Ob.cells true)) (1 : Int))) /\ True) /\ (IsF (Row.mk (List.take 7 (List.drop 0 (gC enR g))) true (Ob.cells true)) 7 (1 : Int) (0 + vLn (Row.mk (List.take 7 (List.drop 0
  (gC enR g))) true (Ob.cells true)) (0 : Int)) /\ IsZ (Row.mk (iCells IntKind.i64 ([] ++ vNs (Row.mk (List.take 7 (List.drop 0 (gC enR g))) true (Ob.cells true)) (0 :
  Int))) false (Ob.cells true)) (0 + vLn (Row.mk (List.take 7 (List.drop 0 (gC enR g))) true (Ob.cells true)) (0 : Int))))))) /\ (br (vOk (Row.mk (List.take 7 (List.drop 0
  (gC enR g))) true (Ob.cells true)) (1 : Int)) ((((True /\ (True /\ (True /\ True))) /\ ((((7 <= List.length (gC enR g) /\ Plain (List.take 7 (List.drop 0 (gC enR g)))) /\
  True) /\ ((True /\ True) /\ ((True /\ True) /\ (True /\ (Plain (iCells IntKind.i64 (dI (Row.mk (iCells IntKind.i64 ([] ++ vNs (Row.mk (List.take 7 (List.drop 0 (gC enR
  g))) true (Ob.cells true)) (0 : Int))) false (Ob.cells true)) ++ vNs (Row.mk (List.take 7 (List.drop 0 (gC enR g))) true (Ob.cells true)) (1 : Int))) /\ True))))) /\
  ((Plain (iCells IntKind.i64 (dI (Row.mk (iCells IntKind.i64 (dI (Row.mk (iCells IntKind.i64 ([] ++ vNs (Row.mk (List.take 7 (List.drop 0 (gC enR g))) true (Ob.cells true))
  (0 : Int))) false (Ob.cells true)) ++ vNs (Row.mk (List.take 7 (List.drop 0 (gC enR g))) true (Ob.cells true)) (1 : Int))) false (Ob.cells true)) ++ vNs (Row.mk (List.take
  7 (List.drop 0 (gC enR g))) true (Ob.cells true)) (2 : Int))) /\ True) /\ (IsF (Row.mk (List.take 7 (List.drop 0 (gC enR g))) true (Ob.cells true)) 7 (2 : Int) (0 + vLn
  (Row.mk (List.take 7 (List.drop 0 (gC enR g))) true (Ob.cells true)) (0 : Int) + vLn (Row.mk (List.take 7 (List.drop 0 (gC enR g))) true (Ob.cells true)) (1 : Int)) /\ IsZ
  (Row.mk (iCells IntKind.i64 (dI (Row.mk (iCells IntKind.i64 ([] ++ vNs (Row.mk (List.take 7 (List.drop 0 (gC enR g))) true (Ob.cells true)) (0 : Int))) false (Ob.cells
  true)) ++ vNs (Row.mk (List.take 7 (List.drop 0 (gC enR g))) true (Ob.cells true)) (1 : Int))) false (Ob.cells true)) (0 + vLn (Row.mk (List.take 7 (List.drop 0 (gC enR
  g))) true (Ob.cells true)) (0 : Int) + vLn (Row.mk (List.take 7 (List.drop 0 (gC enR g))) true (Ob.cells true)) (1 : Int))))))) /\ (br (vOk (Row.mk (List.take 7 (List.drop
  0 (gC enR g))) true (Ob.cells true)) (2 : Int)) ((((True /\ (True /\ (True /\ True))) /\ ((((7 <= List.length (gC enR g) /\ Plain (List.take 7 (List.drop 0 (gC enR g))))
  /\ True) /\ ((True /\ True) /\ ((True /\ True) /\ (True /\ (Plain (iCells IntKind.i64 (dI (Row.mk (iCells IntKind.i64 (dI (Row.mk (iCells IntKind.i64 ([] ++ vNs (Row.mk
  (List.take 7 (List.drop 0 (gC enR g))) true (Ob.cells true)) (0 : Int))) false (Ob.cells true)) ++ vNs (Row.mk (List.take 7 (List.drop 0 (gC enR g))) true (Ob.cells true))
  (1 : Int))) false (Ob.cells true)) ++ vNs (Row.mk (List.take 7 (List.drop 0 (gC enR g))) true (Ob.cells true)) (2 : Int))) /\ True))))) /\ ((Plain (iCells IntKind.i64 (dI
  (Row.mk (iCells IntKind.i64 (dI (Row.mk (iCells IntKind.i64 (dI (Row.mk (iCells IntKind.i64 ([] ++ vNs (Row.mk (List.take 7 (List.drop 0 (gC enR g))) true (Ob.cells true))
  (0 : Int))) false (Ob.cells true)) ++ vNs (Row.mk (List.take 7 (List.drop 0 (gC enR g))) true (Ob.cells true)) (1 : Int))) false (Ob.cells true)) ++ vNs (Row.mk (List.take
  7 (List.drop 0 (gC enR g))) true (Ob.cells true)) (2 : Int))) false (Ob.cells true)) ++ vNs (Row.mk (List.take 7 (List.drop 0 (gC enR g))) true (Ob.cells true)) (3 :
  Int))) /\ True) /\ (IsF (Row.mk (List.take 7 (List.drop 0 (gC enR g))) true (Ob.cells true)) 7 (3 : Int) (0 + vLn (Row.mk (List.take 7 (List.drop 0 (gC enR g))) true
  (Ob.cells true)) (0 : Int) + vLn (Row.mk (List.take 7 (List.drop 0 (gC enR g))) true (Ob.cells true)) (1 : Int) + vLn (Row.mk (List.take 7 (List.drop 0 (gC enR g))) true
  (Ob.cells true)) (2 : Int)) /\ IsZ (Row.mk (iCells IntKind.i64 (dI (Row.mk (iCells IntKind.i64 (dI (Row.mk (iCells IntKind.i64 ([] ++ vNs (Row.mk (List.take 7 (List.drop 0
  (gC enR g))) true (Ob.cells true)) (0 : Int))) false (Ob.cells true)) ++ vNs (Row.mk (List.take 7 (List.drop 0 (gC enR g))) true (Ob.cells true)) (1 : Int))) false
  (Ob.cells true)) ++ vNs (Row.mk (List.take 7 (List.drop 0 (gC enR g))) true (Ob.cells true)) (2 : Int))) false (Ob.cells true)) (0 + vLn (Row.mk (List.take 7 (List.drop 0
  (gC enR g))) true (Ob.cells true)) (0 : Int) + vLn (Row.mk (List.take 7 (List.drop 0 (gC enR g))) true (Ob.cells true)) (1 : Int) + vLn (Row.mk (List.take 7 (List.drop 0
  (gC enR g))) true (Ob.cells true)) (2 : Int))))))) /\ (br (vOk (Row.mk (List.take 7 (List.drop 0 (gC enR g))) true (Ob.cells true)) (3 : Int)) ((((True /\ (True /\ (True
  /\ True))) /\ ((((7 <= List.length (gC enR g) /\ Plain (List.take 7 (List.drop 0 (gC enR g)))) /\ True) /\ ((True /\ True) /\ ((True /\ True) /\ (True /\ (Plain (iCells
  IntKind.i64 (dI (Row.mk (iCells IntKind.i64 (dI (Row.mk (iCells IntKind.i64 (dI (Row.mk (iCells IntKind.i64 ([] ++ vNs (Row.mk (List.take 7 (List.drop 0 (gC enR g))) true
  (Ob.cells true)) (0 : Int))) false (Ob.cells true)) ++ vNs (Row.mk (List.take 7 (List.drop 0 (gC enR g))) true (Ob.cells true)) (1 : Int))) false (Ob.cells true)) ++ vNs
  (Row.mk (List.take 7 (List.drop 0 (gC enR g))) true (Ob.cells true)) (2 : Int))) false (Ob.cells true)) ++ vNs (Row.mk (List.take 7 (List.drop 0 (gC enR g))) true
  (Ob.cells true)) (3 : Int))) /\ True))))) /\ ((Plain (iCells IntKind.i64 (dI (Row.mk (iCells IntKind.i64 (dI (Row.mk (iCells IntKind.i64 (dI (Row.mk (iCells IntKind.i64
  (dI (Row.mk (iCells IntKind.i64 ([] ++ vNs (Row.mk (List.take 7 (List.drop 0 (gC enR g))) true (Ob.cells true)) (0 : Int))) false (Ob.cells true)) ++ vNs (Row.mk
  (List.take 7 (List.drop 0 (gC enR g))) true (Ob.cells true)) (1 : Int))) false (Ob.cells true)) ++ vNs (Row.mk (List.take 7 (List.drop 0 (gC enR g))) true (Ob.cells true))
  (2 : Int))) false (Ob.cells true)) ++ vNs (Row.mk (List.take 7 (List.drop 0 (gC enR g))) true (Ob.cells true)) (3 : Int))) false (Ob.cells true)) ++ vNs (Row.mk (List.take
  7 (List.drop 0 (gC enR g))) true (Ob.cells true)) (4 : Int))) /\ True) /\ (IsF (Row.mk (List.take 7 (List.drop 0 (gC enR g))) true (Ob.cells true)) 7 (4 : Int) (0 + vLn
  (Row.mk (List.take 7 (List.drop 0 (gC enR g))) true (Ob.cells true)) (0 : Int) + vLn (Row.mk (List.take 7 (List.drop 0 (gC enR g))) true (Ob.cells true)) (1 : Int) + vLn
  (Row.mk (List.take 7 (List.drop 0 (gC enR g))) true (Ob.cells true)) (2 : Int) + vLn (Row.mk (List.take 7 (List.drop 0 (gC enR g))) true (Ob.cells true)) (3 : Int)) /\ IsZ
  (Row.mk (iCells IntKind.i64 (dI (Row.mk (iCells IntKind.i64 (dI (Row.mk (iCells IntKind.i64 (dI (Row.mk (iCells IntKind.i64 ([] ++ vNs (Row.mk (List.take 7 (List.drop 0
  (gC enR g))) true (Ob.cells true)) (0 : Int))) false (Ob.cells true)) ++ vNs (Row.mk (List.take 7 (List.drop 0 (gC enR g))) true (Ob.cells true)) (1 : Int))) false
  (Ob.cells true)) ++ vNs (Row.mk (List.take 7 (List.drop 0 (gC enR g))) true (Ob.cells true)) (2 : Int))) false (Ob.cells true)) ++ vNs (Row.mk (List.take 7 (List.drop 0
  (gC enR g))) true (Ob.cells true)) (3 : Int))) false (Ob.cells true)) (0 + vLn (Row.mk (List.take 7 (List.drop 0 (gC enR g))) true (Ob.cells true)) (0 : Int) + vLn (Row.mk
  (List.take 7 (List.drop 0 (gC enR g))) true (Ob.cells true)) (1 : Int) + vLn (Row.mk (List.take 7 (List.drop 0 (gC enR g))) true (Ob.cells true)) (2 : Int) + vLn (Row.mk
  (List.take 7 (List.drop 0 (gC enR g))) true (Ob.cells true)) (3 : Int))))))) /\ (br (vOk (Row.mk (List.take 7 (List.drop 0 (gC enR g))) true (Ob.cells true)) (4 : Int))
  ((((True /\ (True /\ (True /\ True))) /\ ((((7 <= List.length (gC enR g) /\ Plain (List.take 7 (List.drop 0 (gC enR g)))) /\ True) /\ ((True /\ True) /\ ((True /\ True) /\
  (True /\ (Plain (iCells IntKind.i64 (dI (Row.mk (iCells IntKind.i64 (dI (Row.mk (iCells IntKind.i64 (dI (Row.mk (iCells IntKind.i64 (dI (Row.mk (iCells IntKind.i64 ([] ++
  vNs (Row.mk (List.take 7 (List.drop 0 (gC enR g))) true (Ob.cells true)) (0 : Int))) false (Ob.cells true)) ++ vNs (Row.mk (List.take 7 (List.drop 0 (gC enR g))) true
  (Ob.cells true)) (1 : Int))) false (Ob.cells true)) ++ vNs (Row.mk (List.take 7 (List.drop 0 (gC enR g))) true (Ob.cells true)) (2 : Int))) false (Ob.cells true)) ++ vNs
  (Row.mk (List.take 7 (List.drop 0 (gC enR g))) true (Ob.cells true)) (3 : Int))) false (Ob.cells true)) ++ vNs (Row.mk (List.take 7 (List.drop 0 (gC enR g))) true
  (Ob.cells true)) (4 : Int))) /\ True))))) /\ ((Plain (iCells IntKind.i64 (dI (Row.mk (iCells IntKind.i64 (dI (Row.mk (iCells IntKind.i64 (dI (Row.mk (iCells IntKind.i64
  (dI (Row.mk (iCells IntKind.i64 (dI (Row.mk (iCells IntKind.i64 ([] ++ vNs (Row.mk (List.take 7 (List.drop 0 (gC enR g))) true (Ob.cells true)) (0 : Int))) false (Ob.cells
  true)) ++ vNs (Row.mk (List.take 7 (List.drop 0 (gC enR g))) true (Ob.cells true)) (1 : Int))) false (Ob.cells true)) ++ vNs (Row.mk (List.take 7 (List.drop 0 (gC enR g)))
  true (Ob.cells true)) (2 : Int))) false (Ob.cells true)) ++ vNs (Row.mk (List.take 7 (List.drop 0 (gC enR g))) true (Ob.cells true)) (3 : Int))) false (Ob.cells true)) ++
  vNs (Row.mk (List.take 7 (List.drop 0 (gC enR g))) true (Ob.cells true)) (4 : Int))) false (Ob.cells true)) ++ vNs (Row.mk (List.take 7 (List.drop 0 (gC enR g))) true
  (Ob.cells true)) (5 : Int))) /\ True) /\ (IsF (Row.mk (List.take 7 (List.drop 0 (gC enR g))) true (Ob.cells true)) 7 (5 : Int) (0 + vLn (Row.mk (List.take 7 (List.drop 0
  (gC enR g))) true (Ob.cells true)) (0 : Int) + vLn (Row.mk (List.take 7 (List.drop 0 (gC enR g))) true (Ob.cells true)) (1 : Int) + vLn (Row.mk (List.take 7 (List.drop 0
  (gC enR g))) true (Ob.cells true)) (2 : Int) + vLn (Row.mk (List.take 7 (List.drop 0 (gC enR g))) true (Ob.cells true)) (3 : Int) + vLn (Row.mk (List.take 7 (List.drop 0
  (gC enR g))) true (Ob.cells true)) (4 : Int)) /\ IsZ (Row.mk (iCells IntKind.i64 (dI (Row.mk (iCells IntKind.i64 (dI (Row.mk (iCells IntKind.i64 (dI (Row.mk (iCells
  IntKind.i64 (dI (Row.mk (iCells IntKind.i64 ([] ++ vNs (Row.mk (List.take 7 (List.drop 0 (gC enR g))) true (Ob.cells true)) (0 : Int))) false (Ob.cells true)) ++ vNs
  (Row.mk (List.take 7 (List.drop 0 (gC enR g))) true (Ob.cells true)) (1 : Int))) false (Ob.cells true)) ++ vNs (Row.mk (List.take 7 (List.drop 0 (gC enR g))) true
  (Ob.cells true)) (2 : Int))) false (Ob.cells true)) ++ vNs (Row.mk (List.take 7 (List.drop 0 (gC enR g))) true (Ob.cells true)) (3 : Int))) false (Ob.cells true)) ++ vNs
  (Row.mk (List.take 7 (List.drop 0 (gC enR g))) true (Ob.cells true)) (4 : Int))) false (Ob.cells true)) (0 + vLn (Row.mk (List.take 7 (List.drop 0 (gC enR g))) true
  (Ob.cells true)) (0 : Int) + vLn (Row.mk (List.take 7 (List.drop 0 (gC enR g))) true (Ob.cells true)) (1 : Int) + vLn (Row.mk (List.take 7 (List.drop 0 (gC enR g))) true
  (Ob.cells true)) (2 : Int) + vLn (Row.mk (List.take 7 (List.drop 0 (gC enR g))) true (Ob.cells true)) (3 : Int) + vLn (Row.mk (List.take 7 (List.drop 0 (gC enR g))) true
  (Ob.cells true)) (4 : Int))))))) /\ (br (vOk (Row.mk (List.take 7 (List.drop 0 (gC enR g))) true (Ob.cells true)) (5 : Int)) ((((True /\ (True /\ (True /\ True))) /\ ((((7
  <= List.length (gC enR g) /\ Plain (List.take 7 (List.drop 0 (gC enR g)))) /\ True) /\ ((True /\ True) /\ ((True /\ True) /\ (True /\ (Plain (iCells IntKind.i64 (dI
  (Row.mk (iCells IntKind.i64 (dI (Row.mk (iCells IntKind.i64 (dI (Row.mk (iCells IntKind.i64 (dI (Row.mk (iCells IntKind.i64 (dI (Row.mk (iCells IntKind.i64 ([] ++ vNs
  (Row.mk (List.take 7 (List.drop 0 (gC enR g))) true (Ob.cells true)) (0 : Int))) false (Ob.cells true)) ++ vNs (Row.mk (List.take 7 (List.drop 0 (gC enR g))) true
  (Ob.cells true)) (1 : Int))) false (Ob.cells true)) ++ vNs (Row.mk (List.take 7 (List.drop 0 (gC enR g))) true (Ob.cells true)) (2 : Int))) false (Ob.cells true)) ++ vNs
  (Row.mk (List.take 7 (List.drop 0 (gC enR g))) true (Ob.cells true)) (3 : Int))) false (Ob.cells true)) ++ vNs (Row.mk (List.take 7 (List.drop 0 (gC enR g))) true
  (Ob.cells true)) (4 : Int))) false (Ob.cells true)) ++ vNs (Row.mk (List.take 7 (List.drop 0 (gC enR g))) true (Ob.cells true)) (5 : Int))) /\ True))))) /\ ((Plain (iCells
  IntKind.i64 (dI (Row.mk (iCells IntKind.i64 (dI (Row.mk (iCells IntKind.i64 (dI (Row.mk (iCells IntKind.i64 (dI (Row.mk (iCells IntKind.i64 (dI (Row.mk (iCells IntKind.i64
  (dI (Row.mk (iCells IntKind.i64 ([] ++ vNs (Row.mk (List.take 7 (List.drop 0 (gC enR g))) true (Ob.cells true)) (0 : Int))) false (Ob.cells true)) ++ vNs (Row.mk
  (List.take 7 (List.drop 0 (gC enR g))) true (Ob.cells true)) (1 : Int))) false (Ob.cells true)) ++ vNs (Row.mk (List.take 7 (List.drop 0 (gC enR g))) true (Ob.cells true))
  (2 : Int))) false (Ob.cells true)) ++ vNs (Row.mk (List.take 7 (List.drop 0 (gC enR g))) true (Ob.cells true)) (3 : Int))) false (Ob.cells true)) ++ vNs (Row.mk (List.take
  7 (List.drop 0 (gC enR g))) true (Ob.cells true)) (4 : Int))) false (Ob.cells true)) ++ vNs (Row.mk (List.take 7 (List.drop 0 (gC enR g))) true (Ob.cells true)) (5 :
  Int))) false (Ob.cells true)) ++ vNs (Row.mk (List.take 7 (List.drop 0 (gC enR g))) true (Ob.cells true)) (6 : Int))) /\ True) /\ (IsF (Row.mk (List.take 7 (List.drop 0
  (gC enR g))) true (Ob.cells true)) 7 (6 : Int) (0 + vLn (Row.mk (List.take 7 (List.drop 0 (gC enR g))) true (Ob.cells true)) (0 : Int) + vLn (Row.mk (List.take 7
  (List.drop 0 (gC enR g))) true (Ob.cells true)) (1 : Int) + vLn (Row.mk (List.take 7 (List.drop 0 (gC enR g))) true (Ob.cells true)) (2 : Int) + vLn (Row.mk (List.take 7
  (List.drop 0 (gC enR g))) true (Ob.cells true)) (3 : Int) + vLn (Row.mk (List.take 7 (List.drop 0 (gC enR g))) true (Ob.cells true)) (4 : Int) + vLn (Row.mk (List.take 7
  (List.drop 0 (gC enR g))) true (Ob.cells true)) (5 : Int)) /\ IsZ (Row.mk (iCells IntKind.i64 (dI (Row.mk (iCells IntKind.i64 (dI (Row.mk (iCells IntKind.i64 (dI (Row.mk
  (iCells IntKind.i64 (dI (Row.mk (iCells IntKind.i64 (dI (Row.mk (iCells IntKind.i64 ([] ++ vNs (Row.mk (List.take 7 (List.drop 0 (gC enR g))) true (Ob.cells true)) (0 :
  Int))) false (Ob.cells true)) ++ vNs (Row.mk (List.take 7 (List.drop 0 (gC enR g))) true (Ob.cells true)) (1 : Int))) false (Ob.cells true)) ++ vNs (Row.mk (List.take 7
  (List.drop 0 (gC enR g))) true (Ob.cells true)) (2 : Int))) false (Ob.cells true)) ++ vNs (Row.mk (List.take 7 (List.drop 0 (gC enR g))) true (Ob.cells true)) (3 : Int)))
  false (Ob.cells true)) ++ vNs (Row.mk (List.take 7 (List.drop 0 (gC enR g))) true (Ob.cells true)) (4 : Int))) false (Ob.cells true)) ++ vNs (Row.mk (List.take 7
  (List.drop 0 (gC enR g))) true (Ob.cells true)) (5 : Int))) false (Ob.cells true)) (0 + vLn (Row.mk (List.take 7 (List.drop 0 (gC enR g))) true (Ob.cells true)) (0 : Int)
  + vLn (Row.mk (List.take 7 (List.drop 0 (gC enR g))) true (Ob.cells true)) (1 : Int) + vLn (Row.mk (List.take 7 (List.drop 0 (gC enR g))) true (Ob.cells true)) (2 : Int) +
  vLn (Row.mk (List.take 7 (List.drop 0 (gC enR g))) true (Ob.cells true)) (3 : Int) + vLn (Row.mk (List.take 7 (List.drop 0 (gC enR g))) true (Ob.cells true)) (4 : Int) +
  vLn (Row.mk (List.take 7 (List.drop 0 (gC enR g))) true (Ob.cells true)) (5 : Int))))))) /\ (br (vOk (Row.mk (List.take 7 (List.drop 0 (gC enR g))) true (Ob.cells true))
  (6 : Int)) (∃ g2 : GH, ((PH g2) /\ ((0 = 0) /\ ((List.length g2.2 = List.length y.1) /\ ((0 = 0) /\ ((g2.3 = y.2) /\ ((0 = 0) /\ ((0 = 0) /\ ((0 = 0) /\ ((0 = 0) /\ ((0 =
  0) /\ ((g2.8 = true) /\ ((Eq (α := List Value) (gC enR g2.1) (gC enR g)) /\ ((Plain (gC enR g2.1)) /\ ((0 = 0) /\ ((List.length g2.7 = 0 + vLn (Row.mk (List.take 7
  (List.drop 0 (gC enR g))) true (Ob.cells true)) (0 : Int) + vLn (Row.mk (List.take 7 (List.drop 0 (gC enR g))) true (Ob.cells true)) (1 : Int) + vLn (Row.mk (List.take 7
  (List.drop 0 (gC enR g))) true (Ob.cells true)) (2 : Int) + vLn (Row.mk (List.take 7 (List.drop 0 (gC enR g))) true (Ob.cells true)) (3 : Int) + vLn (Row.mk (List.take 7
  (List.drop 0 (gC enR g))) true (Ob.cells true)) (4 : Int) + vLn (Row.mk (List.take 7 (List.drop 0 (gC enR g))) true (Ob.cells true)) (5 : Int) + vLn (Row.mk (List.take 7
  (List.drop 0 (gC enR g))) true (Ob.cells true)) (6 : Int)) /\ ((g2.4 = y.3) /\ ((g2.5 = y.4) /\ ((g2.6 = y.5) /\ ((Eq (α := List Value) (iCells IntKind.i64 g2.2) (iCells
  IntKind.i64 y.1)) /\ ((Plain (iCells IntKind.i64 g2.2)) /\ ((Eq (α := List Value) (iCells IntKind.i64 g2.7) (iCells IntKind.i64 (dI (Row.mk (iCells IntKind.i64 (dI (Row.mk
  (iCells IntKind.i64 (dI (Row.mk (iCells IntKind.i64 (dI (Row.mk (iCells IntKind.i64 (dI (Row.mk (iCells IntKind.i64 (dI (Row.mk (iCells IntKind.i64 ([] ++ vNs (Row.mk
  (List.take 7 (List.drop 0 (gC enR g))) true (Ob.cells true)) (0 : Int))) false (Ob.cells true)) ++ vNs (Row.mk (List.take 7 (List.drop 0 (gC enR g))) true (Ob.cells true))
  (1 : Int))) false (Ob.cells true)) ++ vNs (Row.mk (List.take 7 (List.drop 0 (gC enR g))) true (Ob.cells true)) (2 : Int))) false (Ob.cells true)) ++ vNs (Row.mk (List.take
  7 (List.drop 0 (gC enR g))) true (Ob.cells true)) (3 : Int))) false (Ob.cells true)) ++ vNs (Row.mk (List.take 7 (List.drop 0 (gC enR g))) true (Ob.cells true)) (4 :
  Int))) false (Ob.cells true)) ++ vNs (Row.mk (List.take 7 (List.drop 0 (gC enR g))) true (Ob.cells true)) (5 : Int))) false (Ob.cells true)) ++ vNs (Row.mk (List.take 7
  (List.drop 0 (gC enR g))) true (Ob.cells true)) (6 : Int)))) /\ ((Plain (iCells IntKind.i64 g2.7)) /\ ((g2.12 = (-1 : Int)) /\ ((g2.13 = (0 : Int)) /\ ((g2.14 = (0 : Int))
  /\ ((g2.15 = false) /\ ((g2.9 = (0 : Int)) /\ ((g2.10 = (0 : Int)) /\ ((g2.11 = (0 : Int)) /\ (∀ (y2 : Unit), ((True) → (∃ y3 : Unit, ((True) /\ ((true = true) /\ ((Eq (α
  := List Value) (gC enR rr) (gC enR g2.1)) /\ ((Plain (gC enR rr)) /\ True))))))))))))))))))))))))))))))))))))) (br (vRt (Row.mk (List.take 7 (List.drop 0 (gC enR g))) true
  (Ob.cells true)) (6 : Int)) ((noGo (PanicEntry.mk (Value.iface 10 (Value.string dS)) true false :: reps 10 dS (Int.toNat (vDep (Row.mk (List.take 7 (List.drop 0 (gC enR
  g))) true (Ob.cells true)) (6 : Int)))) = true) /\ (∃ g2 : GH, ((PH g2) /\ ((0 = 0) /\ ((List.length g2.2 = List.length y.1) /\ ((0 = 0) /\ ((g2.3 = y.2) /\ ((0 = 0) /\
  ((0 = 0) /\ ((0 = 0) /\ ((0 = 0) /\ ((0 = 0) /\ ((g2.8 = true) /\ ((Eq (α := List Value) (gC enR g2.1) (gC enR g)) /\ ((Plain (gC enR g2.1)) /\ ((0 = 0) /\ ((List.length
  g2.7 = 0 + vLn (Row.mk (List.take 7 (List.drop 0 (gC enR g))) true (Ob.cells true)) (0 : Int) + vLn (Row.mk (List.take 7 (List.drop 0 (gC enR g))) true (Ob.cells true)) (1
  : Int) + vLn (Row.mk (List.take 7 (List.drop 0 (gC enR g))) true (Ob.cells true)) (2 : Int) + vLn (Row.mk (List.take 7 (List.drop 0 (gC enR g))) true (Ob.cells true)) (3 :
  Int) + vLn (Row.mk (List.take 7 (List.drop 0 (gC enR g))) true (Ob.cells true)) (4 : Int) + vLn (Row.mk (List.take 7 (List.drop 0 (gC enR g))) true (Ob.cells true)) (5 :
  Int) + vLn (Row.mk (List.take 7 (List.drop 0 (gC enR g))) true (Ob.cells true)) (6 : Int)) /\ ((g2.4 = y.3) /\ ((g2.5 = y.4) /\ ((g2.6 = y.5) /\ ((Eq (α := List Value)
  (iCells IntKind.i64 g2.2) (iCells IntKind.i64 y.1)) /\ ((Plain (iCells IntKind.i64 g2.2)) /\ ((Eq (α := List Value) (iCells IntKind.i64 g2.7) (iCells IntKind.i64 (dI
  (Row.mk (iCells IntKind.i64 (dI (Row.mk (iCells IntKind.i64 (dI (Row.mk (iCells IntKind.i64 (dI (Row.mk (iCells IntKind.i64 (dI (Row.mk (iCells IntKind.i64 (dI (Row.mk
  (iCells IntKind.i64 ([] ++ vNs (Row.mk (List.take 7 (List.drop 0 (gC enR g))) true (Ob.cells true)) (0 : Int))) false (Ob.cells true)) ++ vNs (Row.mk (List.take 7
  (List.drop 0 (gC enR g))) true (Ob.cells true)) (1 : Int))) false (Ob.cells true)) ++ vNs (Row.mk (List.take 7 (List.drop 0 (gC enR g))) true (Ob.cells true)) (2 : Int)))
  false (Ob.cells true)) ++ vNs (Row.mk (List.take 7 (List.drop 0 (gC enR g))) true (Ob.cells true)) (3 : Int))) false (Ob.cells true)) ++ vNs (Row.mk (List.take 7
  (List.drop 0 (gC enR g))) true (Ob.cells true)) (4 : Int))) false (Ob.cells true)) ++ vNs (Row.mk (List.take 7 (List.drop 0 (gC enR g))) true (Ob.cells true)) (5 : Int)))
  false (Ob.cells true)) ++ vNs (Row.mk (List.take 7 (List.drop 0 (gC enR g))) true (Ob.cells true)) (6 : Int)))) /\ ((Plain (iCells IntKind.i64 g2.7)) /\ ((g2.12 = (-2 :
  Int)) /\ ((g2.13 = (0 : Int)) /\ ((g2.14 = (0 : Int)) /\ ((g2.15 = false) /\ ((g2.9 = (2 : Int)) /\ ((g2.10 = (0 : Int)) /\ ((g2.11 = (0 : Int)) /\ (∀ (y2 : Unit), ((True)
  → (∃ y3 : Unit, ((True) /\ ((true = true) /\ ((Eq (α := List Value) (gC enR rr) (gC enR g2.1)) /\ ((Plain (gC enR rr)) /\ True)))))))))))))))))))))))))))))))))))))) ((true
  = true) /\ ((Value.agg (Array.mk [Value.int IntKind.i64 (vCode (Row.mk (List.take 7 (List.drop 0 (gC enR g))) true (Ob.cells true)) (6 : Int)), Value.int IntKind.i64 (vPos
  (Row.mk (List.take 7 (List.drop 0 (gC enR g))) true (Ob.cells true)) (6 : Int))]) = Value.agg (Array.mk [Value.int IntKind.i64 (vCode (Row.mk (List.take 7 (List.drop 0 (gC
  enR g))) true (Ob.cells true)) (6 : Int)), Value.int IntKind.i64 (vPos (Row.mk (List.take 7 (List.drop 0 (gC enR g))) true (Ob.cells true)) (6 : Int))])) /\ (∃ g2 : GH,
  ((PH g2) /\ ((0 = 0) /\ ((List.length g2.2 = List.length y.1) /\ ((0 = 0) /\ ((g2.3 = y.2) /\ ((0 = 0) /\ ((0 = 0) /\ ((0 = 0) /\ ((0 = 0) /\ ((0 = 0) /\ ((g2.8 = true) /\
  ((Eq (α := List Value) (gC enR g2.1) (gC enR g)) /\ ((Plain (gC enR g2.1)) /\ ((0 = 0) /\ ((List.length g2.7 = 0 + vLn (Row.mk (List.take 7 (List.drop 0 (gC enR g))) true
  (Ob.cells true)) (0 : Int) + vLn (Row.mk (List.take 7 (List.drop 0 (gC enR g))) true (Ob.cells true)) (1 : Int) + vLn (Row.mk (List.take 7 (List.drop 0 (gC enR g))) true
  (Ob.cells true)) (2 : Int) + vLn (Row.mk (List.take 7 (List.drop 0 (gC enR g))) true (Ob.cells true)) (3 : Int) + vLn (Row.mk (List.take 7 (List.drop 0 (gC enR g))) true
  (Ob.cells true)) (4 : Int) + vLn (Row.mk (List.take 7 (List.drop 0 (gC enR g))) true (Ob.cells true)) (5 : Int) + vLn (Row.mk (List.take 7 (List.drop 0 (gC enR g))) true
  (Ob.cells true)) (6 : Int)) /\ ((g2.4 = y.3) /\ ((g2.5 = y.4) /\ ((g2.6 = y.5) /\ ((Eq (α := List Value) (iCells IntKind.i64 g2.2) (iCells IntKind.i64 y.1)) /\ ((Plain
  (iCells IntKind.i64 g2.2)) /\ ((Eq (α := List Value) (iCells IntKind.i64 g2.7) (iCells IntKind.i64 (dI (Row.mk (iCells IntKind.i64 (dI (Row.mk (iCells IntKind.i64 (dI
  (Row.mk (iCells IntKind.i64 (dI (Row.mk (iCells IntKind.i64 (dI (Row.mk (iCells IntKind.i64 (dI (Row.mk (iCells IntKind.i64 ([] ++ vNs (Row.mk (List.take 7 (List.drop 0
  (gC enR g))) true (Ob.cells true)) (0 : Int))) false (Ob.cells true)) ++ vNs (Row.mk (List.take 7 (List.drop 0 (gC enR g))) true (Ob.cells true)) (1 : Int))) false
  (Ob.cells true)) ++ vNs (Row.mk (List.take 7 (List.drop 0 (gC enR g))) true (Ob.cells true)) (2 : Int))) false (Ob.cells true)) ++ vNs (Row.mk (List.take 7 (List.drop 0
  (gC enR g))) true (Ob.cells true)) (3 : Int))) false (Ob.cells true)) ++ vNs (Row.mk (List.take 7 (List.drop 0 (gC enR g))) true (Ob.cells true)) (4 : Int))) false
  (Ob.cells true)) ++ vNs (Row.mk (List.take 7 (List.drop 0 (gC enR g))) true (Ob.cells true)) (5 : Int))) false (Ob.cells true)) ++ vNs (Row.mk (List.take 7 (List.drop 0
  (gC enR g))) true (Ob.cells true)) (6 : Int)))) /\ ((Plain (iCells IntKind.i64 g2.7)) /\ ((g2.12 = (6 : Int)) /\ ((g2.13 = vCode (Row.mk (List.take 7 (List.drop 0 (gC enR
  g))) true (Ob.cells true)) (6 : Int)) /\ ((g2.14 = vPos (Row.mk (List.take 7 (List.drop 0 (gC enR g))) true (Ob.cells true)) (6 : Int)) /\ ((g2.15 = true) /\ ((g2.9 = (0 :
  Int)) /\ ((g2.10 = (0 : Int)) /\ ((g2.11 = (0 : Int)) /\ (∀ (y2 : Unit), ((True) → (∃ y3 : Unit, ((True) /\ ((true = true) /\ ((Eq (α := List Value) (gC enR rr) (gC enR
  g2.1)) /\ ((Plain (gC enR rr)) /\ True)))))))))))))))))))))))))))))))))))))))))) (br (vRt (Row.mk (List.take 7 (List.drop 0 (gC enR g))) true (Ob.cells true)) (5 : Int))
  ((noGo (PanicEntry.mk (Value.iface 10 (Value.string dS)) true false :: reps 10 dS (Int.toNat (vDep (Row.mk (List.take 7 (List.drop 0 (gC enR g))) true (Ob.cells true)) (5
  : Int)))) = true) /\ (∃ g2 : GH, ((PH g2) /\ ((0 = 0) /\ ((List.length g2.2 = List.length y.1) /\ ((0 = 0) /\ ((g2.3 = y.2) /\ ((0 = 0) /\ ((0 = 0) /\ ((0 = 0) /\ ((0 = 0)
  /\ ((0 = 0) /\ ((g2.8 = true) /\ ((Eq (α := List Value) (gC enR g2.1) (gC enR g)) /\ ((Plain (gC enR g2.1)) /\ ((0 = 0) /\ ((List.length g2.7 = 0 + vLn (Row.mk (List.take
  7 (List.drop 0 (gC enR g))) true (Ob.cells true)) (0 : Int) + vLn (Row.mk (List.take 7 (List.drop 0 (gC enR g))) true (Ob.cells true)) (1 : Int) + vLn (Row.mk (List.take 7
  (List.drop 0 (gC enR g))) true (Ob.cells true)) (2 : Int) + vLn (Row.mk (List.take 7 (List.drop 0 (gC enR g))) true (Ob.cells true)) (3 : Int) + vLn (Row.mk (List.take 7
  (List.drop 0 (gC enR g))) true (Ob.cells true)) (4 : Int) + vLn (Row.mk (List.take 7 (List.drop 0 (gC enR g))) true (Ob.cells true)) (5 : Int)) /\ ((g2.4 = y.3) /\ ((g2.5
  = y.4) /\ ((g2.6 = y.5) /\ ((Eq (α := List Value) (iCells IntKind.i64 g2.2) (iCells IntKind.i64 y.1)) /\ ((Plain (iCells IntKind.i64 g2.2)) /\ ((Eq (α := List Value)
  (iCells IntKind.i64 g2.7) (iCells IntKind.i64 (dI (Row.mk (iCells IntKind.i64 (dI (Row.mk (iCells IntKind.i64 (dI (Row.mk (iCells IntKind.i64 (dI (Row.mk (iCells
  IntKind.i64 (dI (Row.mk (iCells IntKind.i64 ([] ++ vNs (Row.mk (List.take 7 (List.drop 0 (gC enR g))) true (Ob.cells true)) (0 : Int))) false (Ob.cells true)) ++ vNs
  (Row.mk (List.take 7 (List.drop 0 (gC enR g))) true (Ob.cells true)) (1 : Int))) false (Ob.cells true)) ++ vNs (Row.mk (List.take 7 (List.drop 0 (gC enR g))) true
  (Ob.cells true)) (2 : Int))) false (Ob.cells true)) ++ vNs (Row.mk (List.take 7 (List.drop 0 (gC enR g))) true (Ob.cells true)) (3 : Int))) false (Ob.cells true)) ++ vNs
  (Row.mk (List.take 7 (List.drop 0 (gC enR g))) true (Ob.cells true)) (4 : Int))) false (Ob.cells true)) ++ vNs (Row.mk (List.take 7 (List.drop 0 (gC enR g))) true
  (Ob.cells true)) (5 : Int)))) /\ ((Plain (iCells IntKind.i64 g2.7)) /\ ((g2.12 = (-2 : Int)) /\ ((g2.13 = (0 : Int)) /\ ((g2.14 = (0 : Int)) /\ ((g2.15 = false) /\ ((g2.9
  = (2 : Int)) /\ ((g2.10 = (0 : Int)) /\ ((g2.11 = (0 : Int)) /\ (∀ (y2 : Unit), ((True) → (∃ y3 : Unit, ((True) /\ ((true = true) /\ ((Eq (α := List Value) (gC enR rr) (gC
  enR g2.1)) /\ ((Plain (gC enR rr)) /\ True)))))))))))))))))))))))))))))))))))))) ((true = true) /\ ((Value.agg (Array.mk [Value.int IntKind.i64 (vCode (Row.mk (List.take 7
  (List.drop 0 (gC enR g))) true (Ob.cells true)) (5 : Int)), Value.int IntKind.i64 (vPos (Row.mk (List.take 7 (List.drop 0 (gC enR g))) true (Ob.cells true)) (5 : Int))]) =
  Value.agg (Array.mk [Value.int IntKind.i64 (vCode (Row.mk (List.take 7 (List.drop 0 (gC enR g))) true (Ob.cells true)) (5 : Int)), Value.int IntKind.i64 (vPos (Row.mk
  (List.take 7 (List.drop 0 (gC enR g))) true (Ob.cells true)) (5 : Int))])) /\ (∃ g2 : GH, ((PH g2) /\ ((0 = 0) /\ ((List.length g2.2 = List.length y.1) /\ ((0 = 0) /\
  ((g2.3 = y.2) /\ ((0 = 0) /\ ((0 = 0) /\ ((0 = 0) /\ ((0 = 0) /\ ((0 = 0) /\ ((g2.8 = true) /\ ((Eq (α := List Value) (gC enR g2.1) (gC enR g)) /\ ((Plain (gC enR g2.1))
  /\ ((0 = 0) /\ ((List.length g2.7 = 0 + vLn (Row.mk (List.take 7 (List.drop 0 (gC enR g))) true (Ob.cells true)) (0 : Int) + vLn (Row.mk (List.take 7 (List.drop 0 (gC enR
  g))) true (Ob.cells true)) (1 : Int) + vLn (Row.mk (List.take 7 (List.drop 0 (gC enR g))) true (Ob.cells true)) (2 : Int) + vLn (Row.mk (List.take 7 (List.drop 0 (gC enR
  g))) true (Ob.cells true)) (3 : Int) + vLn (Row.mk (List.take 7 (List.drop 0 (gC enR g))) true (Ob.cells true)) (4 : Int) + vLn (Row.mk (List.take 7 (List.drop 0 (gC enR
  g))) true (Ob.cells true)) (5 : Int)) /\ ((g2.4 = y.3) /\ ((g2.5 = y.4) /\ ((g2.6 = y.5) /\ ((Eq (α := List Value) (iCells IntKind.i64 g2.2) (iCells IntKind.i64 y.1)) /\
  ((Plain (iCells IntKind.i64 g2.2)) /\ ((Eq (α := List Value) (iCells IntKind.i64 g2.7) (iCells IntKind.i64 (dI (Row.mk (iCells IntKind.i64 (dI (Row.mk (iCells IntKind.i64
  (dI (Row.mk (iCells IntKind.i64 (dI (Row.mk (iCells IntKind.i64 (dI (Row.mk (iCells IntKind.i64 ([] ++ vNs (Row.mk (List.take 7 (List.drop 0 (gC enR g))) true (Ob.cells
  true)) (0 : Int))) false (Ob.cells true)) ++ vNs (Row.mk (List.take 7 (List.drop 0 (gC enR g))) true (Ob.cells true)) (1 : Int))) false (Ob.cells true)) ++ vNs (Row.mk
  (List.take 7 (List.drop 0 (gC enR g))) true (Ob.cells true)) (2 : Int))) false (Ob.cells true)) ++ vNs (Row.mk (List.take 7 (List.drop 0 (gC enR g))) true (Ob.cells true))
  (3 : Int))) false (Ob.cells true)) ++ vNs (Row.mk (List.take 7 (List.drop 0 (gC enR g))) true (Ob.cells true)) (4 : Int))) false (Ob.cells true)) ++ vNs (Row.mk (List.take
  7 (List.drop 0 (gC enR g))) true (Ob.cells true)) (5 : Int)))) /\ ((Plain (iCells IntKind.i64 g2.7)) /\ ((g2.12 = (5 : Int)) /\ ((g2.13 = vCode (Row.mk (List.take 7
  (List.drop 0 (gC enR g))) true (Ob.cells true)) (5 : Int)) /\ ((g2.14 = vPos (Row.mk (List.take 7 (List.drop 0 (gC enR g))) true (Ob.cells true)) (5 : Int)) /\ ((g2.15 =
  true) /\ ((g2.9 = (0 : Int)) /\ ((g2.10 = (0 : Int)) /\ ((g2.11 = (0 : Int)) /\ (∀ (y2 : Unit), ((True) → (∃ y3 : Unit, ((True) /\ ((true = true) /\ ((Eq (α := List Value)
  (gC enR rr) (gC enR g2.1)) /\ ((Plain (gC enR rr)) /\ True)))))))))))))))))))))))))))))))))))))))))) (br (vRt (Row.mk (List.take 7 (List.drop 0 (gC enR g))) true (Ob.cells
  true)) (4 : Int)) ((noGo (PanicEntry.mk (Value.iface 10 (Value.string dS)) true false :: reps 10 dS (Int.toNat (vDep (Row.mk (List.take 7 (List.drop 0 (gC enR g))) true
  (Ob.cells true)) (4 : Int)))) = true) /\ (∃ g2 : GH, ((PH g2) /\ ((0 = 0) /\ ((List.length g2.2 = List.length y.1) /\ ((0 = 0) /\ ((g2.3 = y.2) /\ ((0 = 0) /\ ((0 = 0) /\
  ((0 = 0) /\ ((0 = 0) /\ ((0 = 0) /\ ((g2.8 = true) /\ ((Eq (α := List Value) (gC enR g2.1) (gC enR g)) /\ ((Plain (gC enR g2.1)) /\ ((0 = 0) /\ ((List.length g2.7 = 0 +
  vLn (Row.mk (List.take 7 (List.drop 0 (gC enR g))) true (Ob.cells true)) (0 : Int) + vLn (Row.mk (List.take 7 (List.drop 0 (gC enR g))) true (Ob.cells true)) (1 : Int) +
  vLn (Row.mk (List.take 7 (List.drop 0 (gC enR g))) true (Ob.cells true)) (2 : Int) + vLn (Row.mk (List.take 7 (List.drop 0 (gC enR g))) true (Ob.cells true)) (3 : Int) +
  vLn (Row.mk (List.take 7 (List.drop 0 (gC enR g))) true (Ob.cells true)) (4 : Int)) /\ ((g2.4 = y.3) /\ ((g2.5 = y.4) /\ ((g2.6 = y.5) /\ ((Eq (α := List Value) (iCells
  IntKind.i64 g2.2) (iCells IntKind.i64 y.1)) /\ ((Plain (iCells IntKind.i64 g2.2)) /\ ((Eq (α := List Value) (iCells IntKind.i64 g2.7) (iCells IntKind.i64 (dI (Row.mk
  (iCells IntKind.i64 (dI (Row.mk (iCells IntKind.i64 (dI (Row.mk (iCells IntKind.i64 (dI (Row.mk (iCells IntKind.i64 ([] ++ vNs (Row.mk (List.take 7 (List.drop 0 (gC enR
  g))) true (Ob.cells true)) (0 : Int))) false (Ob.cells true)) ++ vNs (Row.mk (List.take 7 (List.drop 0 (gC enR g))) true (Ob.cells true)) (1 : Int))) false (Ob.cells
  true)) ++ vNs (Row.mk (List.take 7 (List.drop 0 (gC enR g))) true (Ob.cells true)) (2 : Int))) false (Ob.cells true)) ++ vNs (Row.mk (List.take 7 (List.drop 0 (gC enR g)))
  true (Ob.cells true)) (3 : Int))) false (Ob.cells true)) ++ vNs (Row.mk (List.take 7 (List.drop 0 (gC enR g))) true (Ob.cells true)) (4 : Int)))) /\ ((Plain (iCells
  IntKind.i64 g2.7)) /\ ((g2.12 = (-2 : Int)) /\ ((g2.13 = (0 : Int)) /\ ((g2.14 = (0 : Int)) /\ ((g2.15 = false) /\ ((g2.9 = (2 : Int)) /\ ((g2.10 = (0 : Int)) /\ ((g2.11 =
  (0 : Int)) /\ (∀ (y2 : Unit), ((True) → (∃ y3 : Unit, ((True) /\ ((true = true) /\ ((Eq (α := List Value) (gC enR rr) (gC enR g2.1)) /\ ((Plain (gC enR rr)) /\
  True)))))))))))))))))))))))))))))))))))))) ((true = true) /\ ((Value.agg (Array.mk [Value.int IntKind.i64 (vCode (Row.mk (List.take 7 (List.drop 0 (gC enR g))) true
  (Ob.cells true)) (4 : Int)), Value.int IntKind.i64 (vPos (Row.mk (List.take 7 (List.drop 0 (gC enR g))) true (Ob.cells true)) (4 : Int))]) = Value.agg (Array.mk [Value.int
  IntKind.i64 (vCode (Row.mk (List.take 7 (List.drop 0 (gC enR g))) true (Ob.cells true)) (4 : Int)), Value.int IntKind.i64 (vPos (Row.mk (List.take 7 (List.drop 0 (gC enR
  g))) true (Ob.cells true)) (4 : Int))])) /\ (∃ g2 : GH, ((PH g2) /\ ((0 = 0) /\ ((List.length g2.2 = List.length y.1) /\ ((0 = 0) /\ ((g2.3 = y.2) /\ ((0 = 0) /\ ((0 = 0)
  /\ ((0 = 0) /\ ((0 = 0) /\ ((0 = 0) /\ ((g2.8 = true) /\ ((Eq (α := List Value) (gC enR g2.1) (gC enR g)) /\ ((Plain (gC enR g2.1)) /\ ((0 = 0) /\ ((List.length g2.7 = 0 +
  vLn (Row.mk (List.take 7 (List.drop 0 (gC enR g))) true (Ob.cells true)) (0 : Int) + vLn (Row.mk (List.take 7 (List.drop 0 (gC enR g))) true (Ob.cells true)) (1 : Int) +
  vLn (Row.mk (List.take 7 (List.drop 0 (gC enR g))) true (Ob.cells true)) (2 : Int) + vLn (Row.mk (List.take 7 (List.drop 0 (gC enR g))) true (Ob.cells true)) (3 : Int) +
  vLn (Row.mk (List.take 7 (List.drop 0 (gC enR g))) true (Ob.cells true)) (4 : Int)) /\ ((g2.4 = y.3) /\ ((g2.5 = y.4) /\ ((g2.6 = y.5) /\ ((Eq (α := List Value) (iCells
  IntKind.i64 g2.2) (iCells IntKind.i64 y.1)) /\ ((Plain (iCells IntKind.i64 g2.2)) /\ ((Eq (α := List Value) (iCells IntKind.i64 g2.7) (iCells IntKind.i64 (dI (Row.mk
  (iCells IntKind.i64 (dI (Row.mk (iCells IntKind.i64 (dI (Row.mk (iCells IntKind.i64 (dI (Row.mk (iCells IntKind.i64 ([] ++ vNs (Row.mk (List.take 7 (List.drop 0 (gC enR
  g))) true (Ob.cells true)) (0 : Int))) false (Ob.cells true)) ++ vNs (Row.mk (List.take 7 (List.drop 0 (gC enR g))) true (Ob.cells true)) (1 : Int))) false (Ob.cells
  true)) ++ vNs (Row.mk (List.take 7 (List.drop 0 (gC enR g))) true (Ob.cells true)) (2 : Int))) false (Ob.cells true)) ++ vNs (Row.mk (List.take 7 (List.drop 0 (gC enR g)))
  true (Ob.cells true)) (3 : Int))) false (Ob.cells true)) ++ vNs (Row.mk (List.take 7 (List.drop 0 (gC enR g))) true (Ob.cells true)) (4 : Int)))) /\ ((Plain (iCells
  IntKind.i64 g2.7)) /\ ((g2.12 = (4 : Int)) /\ ((g2.13 = vCode (Row.mk (List.take 7 (List.drop 0 (gC enR g))) true (Ob.cells true)) (4 : Int)) /\ ((g2.14 = vPos (Row.mk
  (List.take 7 (List.drop 0 (gC enR g))) true (Ob.cells true)) (4 : Int)) /\ ((g2.15 = true) /\ ((g2.9 = (0 : Int)) /\ ((g2.10 = (0 : Int)) /\ ((g2.11 = (0 : Int)) /\ (∀ (y2
  : Unit), ((True) → (∃ y3 : Unit, ((True) /\ ((true = true) /\ ((Eq (α := List Value) (gC enR rr) (gC enR g2.1)) /\ ((Plain (gC enR rr)) /\
  True)))))))))))))))))))))))))))))))))))))))))) (br (vRt (Row.mk (List.take 7 (List.drop 0 (gC enR g))) true (Ob.cells true)) (3 : Int)) ((noGo (PanicEntry.mk (Value.iface
  10 (Value.string dS)) true false :: reps 10 dS (Int.toNat (vDep (Row.mk (List.take 7 (List.drop 0 (gC enR g))) true (Ob.cells true)) (3 : Int)))) = true) /\ (∃ g2 : GH,
  ((PH g2) /\ ((0 = 0) /\ ((List.length g2.2 = List.length y.1) /\ ((0 = 0) /\ ((g2.3 = y.2) /\ ((0 = 0) /\ ((0 = 0) /\ ((0 = 0) /\ ((0 = 0) /\ ((0 = 0) /\ ((g2.8 = true) /\
  ((Eq (α := List Value) (gC enR g2.1) (gC enR g)) /\ ((Plain (gC enR g2.1)) /\ ((0 = 0) /\ ((List.length g2.7 = 0 + vLn (Row.mk (List.take 7 (List.drop 0 (gC enR g))) true
  (Ob.cells true)) (0 : Int) + vLn (Row.mk (List.take 7 (List.drop 0 (gC enR g))) true (Ob.cells true)) (1 : Int) + vLn (Row.mk (List.take 7 (List.drop 0 (gC enR g))) true
  (Ob.cells true)) (2 : Int) + vLn (Row.mk (List.take 7 (List.drop 0 (gC enR g))) true (Ob.cells true)) (3 : Int)) /\ ((g2.4 = y.3) /\ ((g2.5 = y.4) /\ ((g2.6 = y.5) /\ ((Eq
  (α := List Value) (iCells IntKind.i64 g2.2) (iCells IntKind.i64 y.1)) /\ ((Plain (iCells IntKind.i64 g2.2)) /\ ((Eq (α := List Value) (iCells IntKind.i64 g2.7) (iCells
  IntKind.i64 (dI (Row.mk (iCells IntKind.i64 (dI (Row.mk (iCells IntKind.i64 (dI (Row.mk (iCells IntKind.i64 ([] ++ vNs (Row.mk (List.take 7 (List.drop 0 (gC enR g))) true
  (Ob.cells true)) (0 : Int))) false (Ob.cells true)) ++ vNs (Row.mk (List.take 7 (List.drop 0 (gC enR g))) true (Ob.cells true)) (1 : Int))) false (Ob.cells true)) ++ vNs
  (Row.mk (List.take 7 (List.drop 0 (gC enR g))) true (Ob.cells true)) (2 : Int))) false (Ob.cells true)) ++ vNs (Row.mk (List.take 7 (List.drop 0 (gC enR g))) true
  (Ob.cells true)) (3 : Int)))) /\ ((Plain (iCells IntKind.i64 g2.7)) /\ ((g2.12 = (-2 : Int)) /\ ((g2.13 = (0 : Int)) /\ ((g2.14 = (0 : Int)) /\ ((g2.15 = false) /\ ((g2.9
  = (2 : Int)) /\ ((g2.10 = (0 : Int)) /\ ((g2.11 = (0 : Int)) /\ (∀ (y2 : Unit), ((True) → (∃ y3 : Unit, ((True) /\ ((true = true) /\ ((Eq (α := List Value) (gC enR rr) (gC
  enR g2.1)) /\ ((Plain (gC enR rr)) /\ True)))))))))))))))))))))))))))))))))))))) ((true = true) /\ ((Value.agg (Array.mk [Value.int IntKind.i64 (vCode (Row.mk (List.take 7
  (List.drop 0 (gC enR g))) true (Ob.cells true)) (3 : Int)), Value.int IntKind.i64 (vPos (Row.mk (List.take 7 (List.drop 0 (gC enR g))) true (Ob.cells true)) (3 : Int))]) =
  Value.agg (Array.mk [Value.int IntKind.i64 (vCode (Row.mk (List.take 7 (List.drop 0 (gC enR g))) true (Ob.cells true)) (3 : Int)), Value.int IntKind.i64 (vPos (Row.mk
  (List.take 7 (List.drop 0 (gC enR g))) true (Ob.cells true)) (3 : Int))])) /\ (∃ g2 : GH, ((PH g2) /\ ((0 = 0) /\ ((List.length g2.2 = List.length y.1) /\ ((0 = 0) /\
  ((g2.3 = y.2) /\ ((0 = 0) /\ ((0 = 0) /\ ((0 = 0) /\ ((0 = 0) /\ ((0 = 0) /\ ((g2.8 = true) /\ ((Eq (α := List Value) (gC enR g2.1) (gC enR g)) /\ ((Plain (gC enR g2.1))
  /\ ((0 = 0) /\ ((List.length g2.7 = 0 + vLn (Row.mk (List.take 7 (List.drop 0 (gC enR g))) true (Ob.cells true)) (0 : Int) + vLn (Row.mk (List.take 7 (List.drop 0 (gC enR
  g))) true (Ob.cells true)) (1 : Int) + vLn (Row.mk (List.take 7 (List.drop 0 (gC enR g))) true (Ob.cells true)) (2 : Int) + vLn (Row.mk (List.take 7 (List.drop 0 (gC enR
  g))) true (Ob.cells true)) (3 : Int)) /\ ((g2.4 = y.3) /\ ((g2.5 = y.4) /\ ((g2.6 = y.5) /\ ((Eq (α := List Value) (iCells IntKind.i64 g2.2) (iCells IntKind.i64 y.1)) /\
  ((Plain (iCells IntKind.i64 g2.2)) /\ ((Eq (α := List Value) (iCells IntKind.i64 g2.7) (iCells IntKind.i64 (dI (Row.mk (iCells IntKind.i64 (dI (Row.mk (iCells IntKind.i64
  (dI (Row.mk (iCells IntKind.i64 ([] ++ vNs (Row.mk (List.take 7 (List.drop 0 (gC enR g))) true (Ob.cells true)) (0 : Int))) false (Ob.cells true)) ++ vNs (Row.mk
  (List.take 7 (List.drop 0 (gC enR g))) true (Ob.cells true)) (1 : Int))) false (Ob.cells true)) ++ vNs (Row.mk (List.take 7 (List.drop 0 (gC enR g))) true (Ob.cells true))
  (2 : Int))) false (Ob.cells true)) ++ vNs (Row.mk (List.take 7 (List.drop 0 (gC enR g))) true (Ob.cells true)) (3 : Int)))) /\ ((Plain (iCells IntKind.i64 g2.7)) /\
  ((g2.12 = (3 : Int)) /\ ((g2.13 = vCode (Row.mk (List.take 7 (List.drop 0 (gC enR g))) true (Ob.cells true)) (3 : Int)) /\ ((g2.14 = vPos (Row.mk (List.take 7 (List.drop 0
  (gC enR g))) true (Ob.cells true)) (3 : Int)) /\ ((g2.15 = true) /\ ((g2.9 = (0 : Int)) /\ ((g2.10 = (0 : Int)) /\ ((g2.11 = (0 : Int)) /\ (∀ (y2 : Unit), ((True) → (∃ y3
  : Unit, ((True) /\ ((true = true) /\ ((Eq (α := List Value) (gC enR rr) (gC enR g2.1)) /\ ((Plain (gC enR rr)) /\ True)))))))))))))))))))))))))))))))))))))))))) (br (vRt
  (Row.mk (List.take 7 (List.drop 0 (gC enR g))) true (Ob.cells true)) (2 : Int)) ((noGo (PanicEntry.mk (Value.iface 10 (Value.string dS)) true false :: reps 10 dS
  (Int.toNat (vDep (Row.mk (List.take 7 (List.drop 0 (gC enR g))) true (Ob.cells true)) (2 : Int)))) = true) /\ (∃ g2 : GH, ((PH g2) /\ ((0 = 0) /\ ((List.length g2.2 =
  List.length y.1) /\ ((0 = 0) /\ ((g2.3 = y.2) /\ ((0 = 0) /\ ((0 = 0) /\ ((0 = 0) /\ ((0 = 0) /\ ((0 = 0) /\ ((g2.8 = true) /\ ((Eq (α := List Value) (gC enR g2.1) (gC enR
  g)) /\ ((Plain (gC enR g2.1)) /\ ((0 = 0) /\ ((List.length g2.7 = 0 + vLn (Row.mk (List.take 7 (List.drop 0 (gC enR g))) true (Ob.cells true)) (0 : Int) + vLn (Row.mk
  (List.take 7 (List.drop 0 (gC enR g))) true (Ob.cells true)) (1 : Int) + vLn (Row.mk (List.take 7 (List.drop 0 (gC enR g))) true (Ob.cells true)) (2 : Int)) /\ ((g2.4 =
  y.3) /\ ((g2.5 = y.4) /\ ((g2.6 = y.5) /\ ((Eq (α := List Value) (iCells IntKind.i64 g2.2) (iCells IntKind.i64 y.1)) /\ ((Plain (iCells IntKind.i64 g2.2)) /\ ((Eq (α :=
  List Value) (iCells IntKind.i64 g2.7) (iCells IntKind.i64 (dI (Row.mk (iCells IntKind.i64 (dI (Row.mk (iCells IntKind.i64 ([] ++ vNs (Row.mk (List.take 7 (List.drop 0 (gC
  enR g))) true (Ob.cells true)) (0 : Int))) false (Ob.cells true)) ++ vNs (Row.mk (List.take 7 (List.drop 0 (gC enR g))) true (Ob.cells true)) (1 : Int))) false (Ob.cells
  true)) ++ vNs (Row.mk (List.take 7 (List.drop 0 (gC enR g))) true (Ob.cells true)) (2 : Int)))) /\ ((Plain (iCells IntKind.i64 g2.7)) /\ ((g2.12 = (-2 : Int)) /\ ((g2.13 =
  (0 : Int)) /\ ((g2.14 = (0 : Int)) /\ ((g2.15 = false) /\ ((g2.9 = (2 : Int)) /\ ((g2.10 = (0 : Int)) /\ ((g2.11 = (0 : Int)) /\ (∀ (y2 : Unit), ((True) → (∃ y3 : Unit,
  ((True) /\ ((true = true) /\ ((Eq (α := List Value) (gC enR rr) (gC enR g2.1)) /\ ((Plain (gC enR rr)) /\ True)))))))))))))))))))))))))))))))))))))) ((true = true) /\
  ((Value.agg (Array.mk [Value.int IntKind.i64 (vCode (Row.mk (List.take 7 (List.drop 0 (gC enR g))) true (Ob.cells true)) (2 : Int)), Value.int IntKind.i64 (vPos (Row.mk
  (List.take 7 (List.drop 0 (gC enR g))) true (Ob.cells true)) (2 : Int))]) = Value.agg (Array.mk [Value.int IntKind.i64 (vCode (Row.mk (List.take 7 (List.drop 0 (gC enR
  g))) true (Ob.cells true)) (2 : Int)), Value.int IntKind.i64 (vPos (Row.mk (List.take 7 (List.drop 0 (gC enR g))) true (Ob.cells true)) (2 : Int))])) /\ (∃ g2 : GH, ((PH
  g2) /\ ((0 = 0) /\ ((List.length g2.2 = List.length y.1) /\ ((0 = 0) /\ ((g2.3 = y.2) /\ ((0 = 0) /\ ((0 = 0) /\ ((0 = 0) /\ ((0 = 0) /\ ((0 = 0) /\ ((g2.8 = true) /\ ((Eq
  (α := List Value) (gC enR g2.1) (gC enR g)) /\ ((Plain (gC enR g2.1)) /\ ((0 = 0) /\ ((List.length g2.7 = 0 + vLn (Row.mk (List.take 7 (List.drop 0 (gC enR g))) true
  (Ob.cells true)) (0 : Int) + vLn (Row.mk (List.take 7 (List.drop 0 (gC enR g))) true (Ob.cells true)) (1 : Int) + vLn (Row.mk (List.take 7 (List.drop 0 (gC enR g))) true
  (Ob.cells true)) (2 : Int)) /\ ((g2.4 = y.3) /\ ((g2.5 = y.4) /\ ((g2.6 = y.5) /\ ((Eq (α := List Value) (iCells IntKind.i64 g2.2) (iCells IntKind.i64 y.1)) /\ ((Plain
  (iCells IntKind.i64 g2.2)) /\ ((Eq (α := List Value) (iCells IntKind.i64 g2.7) (iCells IntKind.i64 (dI (Row.mk (iCells IntKind.i64 (dI (Row.mk (iCells IntKind.i64 ([] ++
  vNs (Row.mk (List.take 7 (List.drop 0 (gC enR g))) true (Ob.cells true)) (0 : Int))) false (Ob.cells true)) ++ vNs (Row.mk (List.take 7 (List.drop 0 (gC enR g))) true
  (Ob.cells true)) (1 : Int))) false (Ob.cells true)) ++ vNs (Row.mk (List.take 7 (List.drop 0 (gC enR g))) true (Ob.cells true)) (2 : Int)))) /\ ((Plain (iCells IntKind.i64
  g2.7)) /\ ((g2.12 = (2 : Int)) /\ ((g2.13 = vCode (Row.mk (List.take 7 (List.drop 0 (gC enR g))) true (Ob.cells true)) (2 : Int)) /\ ((g2.14 = vPos (Row.mk (List.take 7
  (List.drop 0 (gC enR g))) true (Ob.cells true)) (2 : Int)) /\ ((g2.15 = true) /\ ((g2.9 = (0 : Int)) /\ ((g2.10 = (0 : Int)) /\ ((g2.11 = (0 : Int)) /\ (∀ (y2 : Unit),
  ((True) → (∃ y3 : Unit, ((True) /\ ((true = true) /\ ((Eq (α := List Value) (gC enR rr) (gC enR g2.1)) /\ ((Plain (gC enR rr)) /\
  True)))))))))))))))))))))))))))))))))))))))))) (br (vRt (Row.mk (List.take 7 (List.drop 0 (gC enR g))) true (Ob.cells true)) (1 : Int)) ((noGo (PanicEntry.mk (Value.iface
  10 (Value.string dS)) true false :: reps 10 dS (Int.toNat (vDep (Row.mk (List.take 7 (List.drop 0 (gC enR g))) true (Ob.cells true)) (1 : Int)))) = true) /\ (∃ g2 : GH,
  ((PH g2) /\ ((0 = 0) /\ ((List.length g2.2 = List.length y.1) /\ ((0 = 0) /\ ((g2.3 = y.2) /\ ((0 = 0) /\ ((0 = 0) /\ ((0 = 0) /\ ((0 = 0) /\ ((0 = 0) /\ ((g2.8 = true) /\
  ((Eq (α := List Value) (gC enR g2.1) (gC enR g)) /\ ((Plain (gC enR g2.1)) /\ ((0 = 0) /\ ((List.length g2.7 = 0 + vLn (Row.mk (List.take 7 (List.drop 0 (gC enR g))) true
  (Ob.cells true)) (0 : Int) + vLn (Row.mk (List.take 7 (List.drop 0 (gC enR g))) true (Ob.cells true)) (1 : Int)) /\ ((g2.4 = y.3) /\ ((g2.5 = y.4) /\ ((g2.6 = y.5) /\ ((Eq
  (α := List Value) (iCells IntKind.i64 g2.2) (iCells IntKind.i64 y.1)) /\ ((Plain (iCells IntKind.i64 g2.2)) /\ ((Eq (α := List Value) (iCells IntKind.i64 g2.7) (iCells
  IntKind.i64 (dI (Row.mk (iCells IntKind.i64 ([] ++ vNs (Row.mk (List.take 7 (List.drop 0 (gC enR g))) true (Ob.cells true)) (0 : Int))) false (Ob.cells true)) ++ vNs
  (Row.mk (List.take 7 (List.drop 0 (gC enR g))) true (Ob.cells true)) (1 : Int)))) /\ ((Plain (iCells IntKind.i64 g2.7)) /\ ((g2.12 = (-2 : Int)) /\ ((g2.13 = (0 : Int)) /\
  ((g2.14 = (0 : Int)) /\ ((g2.15 = false) /\ ((g2.9 = (2 : Int)) /\ ((g2.10 = (0 : Int)) /\ ((g2.11 = (0 : Int)) /\ (∀ (y2 : Unit), ((True) → (∃ y3 : Unit, ((True) /\
  ((true = true) /\ ((Eq (α := List Value) (gC enR rr) (gC enR g2.1)) /\ ((Plain (gC enR rr)) /\ True)))))))))))))))))))))))))))))))))))))) ((true = true) /\ ((Value.agg
  (Array.mk [Value.int IntKind.i64 (vCode (Row.mk (List.take 7 (List.drop 0 (gC enR g))) true (Ob.cells true)) (1 : Int)), Value.int IntKind.i64 (vPos (Row.mk (List.take 7
  (List.drop 0 (gC enR g))) true (Ob.cells true)) (1 : Int))]) = Value.agg (Array.mk [Value.int IntKind.i64 (vCode (Row.mk (List.take 7 (List.drop 0 (gC enR g))) true
  (Ob.cells true)) (1 : Int)), Value.int IntKind.i64 (vPos (Row.mk (List.take 7 (List.drop 0 (gC enR g))) true (Ob.cells true)) (1 : Int))])) /\ (∃ g2 : GH, ((PH g2) /\ ((0
  = 0) /\ ((List.length g2.2 = List.length y.1) /\ ((0 = 0) /\ ((g2.3 = y.2) /\ ((0 = 0) /\ ((0 = 0) /\ ((0 = 0) /\ ((0 = 0) /\ ((0 = 0) /\ ((g2.8 = true) /\ ((Eq (α := List
  Value) (gC enR g2.1) (gC enR g)) /\ ((Plain (gC enR g2.1)) /\ ((0 = 0) /\ ((List.length g2.7 = 0 + vLn (Row.mk (List.take 7 (List.drop 0 (gC enR g))) true (Ob.cells true))
  (0 : Int) + vLn (Row.mk (List.take 7 (List.drop 0 (gC enR g))) true (Ob.cells true)) (1 : Int)) /\ ((g2.4 = y.3) /\ ((g2.5 = y.4) /\ ((g2.6 = y.5) /\ ((Eq (α := List
  Value) (iCells IntKind.i64 g2.2) (iCells IntKind.i64 y.1)) /\ ((Plain (iCells IntKind.i64 g2.2)) /\ ((Eq (α := List Value) (iCells IntKind.i64 g2.7) (iCells IntKind.i64
  (dI (Row.mk (iCells IntKind.i64 ([] ++ vNs (Row.mk (List.take 7 (List.drop 0 (gC enR g))) true (Ob.cells true)) (0 : Int))) false (Ob.cells true)) ++ vNs (Row.mk
  (List.take 7 (List.drop 0 (gC enR g))) true (Ob.cells true)) (1 : Int)))) /\ ((Plain (iCells IntKind.i64 g2.7)) /\ ((g2.12 = (1 : Int)) /\ ((g2.13 = vCode (Row.mk
  (List.take 7 (List.drop 0 (gC enR g))) true (Ob.cells true)) (1 : Int)) /\ ((g2.14 = vPos (Row.mk (List.take 7 (List.drop 0 (gC enR g))) true (Ob.cells true)) (1 : Int))
  /\ ((g2.15 = true) /\ ((g2.9 = (0 : Int)) /\ ((g2.10 = (0 : Int)) /\ ((g2.11 = (0 : Int)) /\ (∀ (y2 : Unit), ((True) → (∃ y3 : Unit, ((True) /\ ((true = true) /\ ((Eq (α
  := List Value) (gC enR rr) (gC enR g2.1)) /\ ((Plain (gC enR rr)) /\ True)))))))))))))))))))))))))))))))))))))))))) (br (vRt (Row.mk (List.take 7 (List.drop 0 (gC enR g)))
  true (Ob.cells true)) (0 : Int)) ((noGo (PanicEntry.mk (Value.iface 10 (Value.string dS)) true false :: reps 10 dS (Int.toNat (vDep (Row.mk (List.take 7 (List.drop 0 (gC
  enR g))) true (Ob.cells true)) (0 : Int)))) = true) /\ (∃ g2 : GH, ((PH g2) /\ ((0 = 0) /\ ((List.length g2.2 = List.length y.1) /\ ((0 = 0) /\ ((g2.3 = y.2) /\ ((0 = 0)
  /\ ((0 = 0) /\ ((0 = 0) /\ ((0 = 0) /\ ((0 = 0) /\ ((g2.8 = true) /\ ((Eq (α := List Value) (gC enR g2.1) (gC enR g)) /\ ((Plain (gC enR g2.1)) /\ ((0 = 0) /\
  ((List.length g2.7 = 0 + vLn (Row.mk (List.take 7 (List.drop 0 (gC enR g))) true (Ob.cells true)) (0 : Int)) /\ ((g2.4 = y.3) /\ ((g2.5 = y.4) /\ ((g2.6 = y.5) /\ ((Eq (α
  := List Value) (iCells IntKind.i64 g2.2) (iCells IntKind.i64 y.1)) /\ ((Plain (iCells IntKind.i64 g2.2)) /\ ((Eq (α := List Value) (iCells IntKind.i64 g2.7) (iCells
  IntKind.i64 ([] ++ vNs (Row.mk (List.take 7 (List.drop 0 (gC enR g))) true (Ob.cells true)) (0 : Int)))) /\ ((Plain (iCells IntKind.i64 g2.7)) /\ ((g2.12 = (-2 : Int)) /\
  ((g2.13 = (0 : Int)) /\ ((g2.14 = (0 : Int)) /\ ((g2.15 = false) /\ ((g2.9 = (2 : Int)) /\ ((g2.10 = (0 : Int)) /\ ((g2.11 = (0 : Int)) /\ (∀ (y2 : Unit), ((True) → (∃ y3
  : Unit, ((True) /\ ((true = true) /\ ((Eq (α := List Value) (gC enR rr) (gC enR g2.1)) /\ ((Plain (gC enR rr)) /\ True)))))))))))))))))))))))))))))))))))))) ((true = true)
  /\ ((Value.agg (Array.mk [Value.int IntKind.i64 (vCode (Row.mk (List.take 7 (List.drop 0 (gC enR g))) true (Ob.cells true)) (0 : Int)), Value.int IntKind.i64 (vPos (Row.mk
  (List.take 7 (List.drop 0 (gC enR g))) true (Ob.cells true)) (0 : Int))]) = Value.agg (Array.mk [Value.int IntKind.i64 (vCode (Row.mk (List.take 7 (List.drop 0 (gC enR
  g))) true (Ob.cells true)) (0 : Int)), Value.int IntKind.i64 (vPos (Row.mk (List.take 7 (List.drop 0 (gC enR g))) true (Ob.cells true)) (0 : Int))])) /\ (∃ g2 : GH, ((PH
  g2) /\ ((0 = 0) /\ ((List.length g2.2 = List.length y.1) /\ ((0 = 0) /\ ((g2.3 = y.2) /\ ((0 = 0) /\ ((0 = 0) /\ ((0 = 0) /\ ((0 = 0) /\ ((0 = 0) /\ ((g2.8 = true) /\ ((Eq
  (α := List Value) (gC enR g2.1) (gC enR g)) /\ ((Plain (gC enR g2.1)) /\ ((0 = 0) /\ ((List.length g2.7 = 0 + vLn (Row.mk (List.take 7 (List.drop 0 (gC enR g))) true
  (Ob.cells true)) (0 : Int)) /\ ((g2.4 = y.3) /\ ((g2.5 = y.4) /\ ((g2.6 = y.5) /\ ((Eq (α := List Value) (iCells IntKind.i64 g2.2) (iCells IntKind.i64 y.1)) /\ ((Plain
  (iCells IntKind.i64 g2.2)) /\ ((Eq (α := List Value) (iCells IntKind.i64 g2.7) (iCells IntKind.i64 ([] ++ vNs (Row.mk (List.take 7 (List.drop 0 (gC enR g))) true (Ob.cells
  true)) (0 : Int)))) /\ ((Plain (iCells IntKind.i64 g2.7)) /\ ((g2.12 = (0 : Int)) /\ ((g2.13 = vCode (Row.mk (List.take 7 (List.drop 0 (gC enR g))) true (Ob.cells true))
  (0 : Int)) /\ ((g2.14 = vPos (Row.mk (List.take 7 (List.drop 0 (gC enR g))) true (Ob.cells true)) (0 : Int)) /\ ((g2.15 = true) /\ ((g2.9 = (0 : Int)) /\ ((g2.10 = (0 :
  Int)) /\ ((g2.11 = (0 : Int)) /\ (∀ (y2 : Unit), ((True) → (∃ y3 : Unit, ((True) /\ ((true = true) /\ ((Eq (α := List Value) (gC enR rr) (gC enR g2.1)) /\ ((Plain (gC enR
  rr)) /\ True)))))))))))))))))))))))))))))))))))))))))))))))))))))))))))) := by kernel_rfl
set_option maxHeartbeats 4000000 in
theorem G8_vc (rr : List (List Ac)) : mlG rr 8 (Sy.endsIn 1 130 (wsG rr)) =
  (∃ g : List (List Ac), ((PF (GF.mk g 8)) /\ ((0 = 0) /\ ((0 = 0) /\ ((0 = 0) /\ (((-1 : Int) = (-1 : Int)) /\ ((0 = 0) /\ (((0 : Int) = (0 : Int)) /\ ((Eq (α := List
  Value) (gC enR g) (gC enR rr)) /\ ((Plain (gC enR g)) /\ ((0 = 0) /\ ((8 = 8) /\ (((0 : Int) = (0 : Int)) /\ (((0 : Int) = (0 : Int)) /\ (((0 : Int) = (0 : Int)) /\ ((Eq
  (α := List Value) ([]) ([])) /\ (∀ (y : FR), ((y = ftl (subs (GF.mk g 8)) 0) → ((((True /\ (True /\ (True /\ True))) /\ ((((8 <= List.length (gC enR g) /\ Plain (List.take
  8 (List.drop 0 (gC enR g)))) /\ True) /\ ((True /\ True) /\ ((True /\ True) /\ (True /\ (Plain [] /\ True))))) /\ ((Plain (iCells IntKind.i64 ([] ++ vNs (Row.mk (List.take
  8 (List.drop 0 (gC enR g))) true (Ob.cells true)) (0 : Int))) /\ True) /\ (IsF (Row.mk (List.take 8 (List.drop 0 (gC enR g))) true (Ob.cells true)) 8 (0 : Int) 0 /\ IsZ
  (Row.mk [] false (Ob.cells true)) 0))))) /\ (br (vOk (Row.mk (List.take 8 (List.drop 0 (gC enR g))) true (Ob.cells true)) (0 : Int)) ((((True /\ (True /\ (True /\ True)))
  /\ ((((8 <= List.length (gC enR g) /\ Plain (List.take 8 (List.drop 0 (gC enR g)))) /\ True) /\ ((True /\ True) /\ ((True /\ True) /\ (True /\ (Plain (iCells IntKind.i64
  ([] ++ vNs (Row.mk (List.take 8 (List.drop 0 (gC enR g))) true (Ob.cells true)) (0 : Int))) /\ True))))) /\ ((Plain (iCells IntKind.i64 (dI (Row.mk (iCells IntKind.i64 ([]
  ++ vNs (Row.mk (List.take 8 (List.drop 0 (gC enR g))) true (Ob.cells true)) (0 : Int))) false (Ob.cells true)) ++ vNs (Row.mk (List.take 8 (List.drop 0 (gC enR g))) true
  (Ob.cells true)) (1 : Int))) /\ True) /\ (IsF (Row.mk (List.take 8 (List.drop 0 (gC enR g))) true (Ob.cells true)) 8 (1 : Int) (0 + vLn (Row.mk (List.take 8 (List.drop 0
  (gC enR g))) true (Ob.cells true)) (0 : Int)) /\ IsZ (Row.mk (iCells IntKind.i64 ([] ++ vNs (Row.mk (List.take 8 (List.drop 0 (gC enR g))) true (Ob.cells true)) (0 :
  Int))) false (Ob.cells true)) (0 + vLn (Row.mk (List.take 8 (List.drop 0 (gC enR g))) true (Ob.cells true)) (0 : Int))))))) /\ (br (vOk (Row.mk (List.take 8 (List.drop 0
  (gC enR g))) true (Ob.cells true)) (1 : Int)) ((((True /\ (True /\ (True /\ True))) /\ ((((8 <= List.length (gC enR g) /\ Plain (List.take 8 (List.drop 0 (gC enR g)))) /\
  True) /\ ((True /\ True) /\ ((True /\ True) /\ (True /\ (Plain (iCells IntKind.i64 (dI (Row.mk (iCells IntKind.i64 ([] ++ vNs (Row.mk (List.take 8 (List.drop 0 (gC enR
  g))) true (Ob.cells true)) (0 : Int))) false (Ob.cells true)) ++ vNs (Row.mk (List.take 8 (List.drop 0 (gC enR g))) true (Ob.cells true)) (1 : Int))) /\ True))))) /\
  ((Plain (iCells IntKind.i64 (dI (Row.mk (iCells IntKind.i64 (dI (Row.mk (iCells IntKind.i64 ([] ++ vNs (Row.mk (List.take 8 (List.drop 0 (gC enR g))) true (Ob.cells true))
  (0 : Int))) false (Ob.cells true)) ++ vNs (Row.mk (List.take 8 (List.drop 0 (gC enR g))) true (Ob.cells true)) (1 : Int))) false (Ob.cells true)) ++ vNs (Row.mk (List.take
  8 (List.drop 0 (gC enR g))) true (Ob.cells true)) (2 : Int))) /\ True) /\ (IsF (Row.mk (List.take 8 (List.drop 0 (gC enR g))) true (Ob.cells true)) 8 (2 : Int) (0 + vLn
  (Row.mk (List.take 8 (List.drop 0 (gC enR g))) true (Ob.cells true)) (0 : Int) + vLn (Row.mk (List.take 8 (List.drop 0 (gC enR g))) true (Ob.cells true)) (1 : Int)) /\ IsZ
  (Row.mk (iCells IntKind.i64 (dI (Row.mk (iCells IntKind.i64 ([] ++ vNs (Row.mk (List.take 8 (List.drop 0 (gC enR g))) true (Ob.cells true)) (0 : Int))) false (Ob.cells
  true)) ++ vNs (Row.mk (List.take 8 (List.drop 0 (gC enR g))) true (Ob.cells true)) (1 : Int))) false (Ob.cells true)) (0 + vLn (Row.mk (List.take 8 (List.drop 0 (gC enR
  g))) true (Ob.cells true)) (0 : Int) + vLn (Row.mk (List.take 8 (List.drop 0 (gC enR g))) true (Ob.cells true)) (1 : Int))))))) /\ (br (vOk (Row.mk (List.take 8 (List.drop
  0 (gC enR g))) true (Ob.cells true)) (2 : Int)) ((((True /\ (True /\ (True /\ True))) /\ ((((8 <= List.length (gC enR g) /\ Plain (List.take 8 (List.drop 0 (gC enR g))))
  /\ True) /\ ((True /\ True) /\ ((True /\ True) /\ (True /\ (Plain (iCells IntKind.i64 (dI (Row.mk (iCells IntKind.i64 (dI (Row.mk (iCells IntKind.i64 ([] ++ vNs (Row.mk
  (List.take 8 (List.drop 0 (gC enR g))) true (Ob.cells true)) (0 : Int))) false (Ob.cells true)) ++ vNs (Row.mk (List.take 8 (List.drop 0 (gC enR g))) true (Ob.cells true))
  (1 : Int))) false (Ob.cells true)) ++ vNs (Row.mk (List.take 8 (List.drop 0 (gC enR g))) true (Ob.cells true)) (2 : Int))) /\ True))))) /\ ((Plain (iCells IntKind.i64 (dI
  (Row.mk (iCells IntKind.i64 (dI (Row.mk (iCells IntKind.i64 (dI (Row.mk (iCells IntKind.i64 ([] ++ vNs (Row.mk (List.take 8 (List.drop 0 (gC enR g))) true (Ob.cells true))
  (0 : Int))) false (Ob.cells true)) ++ vNs (Row.mk (List.take 8 (List.drop 0 (gC enR g))) true (Ob.cells true)) (1 : Int))) false (Ob.cells true)) ++ vNs (Row.mk (List.take
  8 (List.drop 0 (gC enR g))) true (Ob.cells true)) (2 : Int))) false (Ob.cells true)) ++ vNs (Row.mk (List.take 8 (List.drop 0 (gC enR g))) true (Ob.cells true)) (3 :
  Int))) /\ True) /\ (IsF (Row.mk (List.take 8 (List.drop 0 (gC enR g))) true (Ob.cells true)) 8 (3 : Int) (0 + vLn (Row.mk (List.take 8 (List.drop 0 (gC enR g))) true
  (Ob.cells true)) (0 : Int) + vLn (Row.mk (List.take 8 (List.drop 0 (gC enR g))) true (Ob.cells true)) (1 : Int) + vLn (Row.mk (List.take 8 (List.drop 0 (gC enR g))) true
  (Ob.cells true)) (2 : Int)) /\ IsZ (Row.mk (iCells IntKind.i64 (dI (Row.mk (iCells IntKind.i64 (dI (Row.mk (iCells IntKind.i64 ([] ++ vNs (Row.mk (List.take 8 (List.drop 0
  (gC enR g))) true (Ob.cells true)) (0 : Int))) false (Ob.cells true)) ++ vNs (Row.mk (List.take 8 (List.drop 0 (gC enR g))) true (Ob.cells true)) (1 : Int))) false
  (Ob.cells true)) ++ vNs (Row.mk (List.take 8 (List.drop 0 (gC enR g))) true (Ob.cells true)) (2 : Int))) false (Ob.cells true)) (0 + vLn (Row.mk (List.take 8 (List.drop 0
  (gC enR g))) true (Ob.cells true)) (0 : Int) + vLn (Row.mk (List.take 8 (List.drop 0 (gC enR g))) true (Ob.cells true)) (1 : Int) + vLn (Row.mk (List.take 8 (List.drop 0
  (gC enR g))) true (Ob.cells true)) (2 : Int))))))) /\ (br (vOk (Row.mk (List.take 8 (List.drop 0 (gC enR g))) true (Ob.cells true)) (3 : Int)) ((((True /\ (True /\ (True
  /\ True))) /\ ((((8 <= List.length (gC enR g) /\ Plain (List.take 8 (List.drop 0 (gC enR g)))) /\ True) /\ ((True /\ True) /\ ((True /\ True) /\ (True /\ (Plain (iCells
  IntKind.i64 (dI (Row.mk (iCells IntKind.i64 (dI (Row.mk (iCells IntKind.i64 (dI (Row.mk (iCells IntKind.i64 ([] ++ vNs (Row.mk (List.take 8 (List.drop 0 (gC enR g))) true
  (Ob.cells true)) (0 : Int))) false (Ob.cells true)) ++ vNs (Row.mk (List.take 8 (List.drop 0 (gC enR g))) true (Ob.cells true)) (1 : Int))) false (Ob.cells true)) ++ vNs
  (Row.mk (List.take 8 (List.drop 0 (gC enR g))) true (Ob.cells true)) (2 : Int))) false (Ob.cells true)) ++ vNs (Row.mk (List.take 8 (List.drop 0 (gC enR g))) true
  (Ob.cells true)) (3 : Int))) /\ True))))) /\ ((Plain (iCells IntKind.i64 (dI (Row.mk (iCells IntKind.i64 (dI (Row.mk (iCells IntKind.i64 (dI (Row.mk (iCells IntKind.i64
  (dI (Row.mk (iCells IntKind.i64 ([] ++ vNs (Row.mk (List.take 8 (List.drop 0 (gC enR g))) true (Ob.cells true)) (0 : Int))) false (Ob.cells true)) ++ vNs (Row.mk
  (List.take 8 (List.drop 0 (gC enR g))) true (Ob.cells true)) (1 : Int))) false (Ob.cells true)) ++ vNs (Row.mk (List.take 8 (List.drop 0 (gC enR g))) true (Ob.cells true))
  (2 : Int))) false (Ob.cells true)) ++ vNs (Row.mk (List.take 8 (List.drop 0 (gC enR g))) true (Ob.cells true)) (3 : Int))) false (Ob.cells true)) ++ vNs (Row.mk (List.take
  8 (List.drop 0 (gC enR g))) true (Ob.cells true)) (4 : Int))) /\ True) /\ (IsF (Row.mk (List.take 8 (List.drop 0 (gC enR g))) true (Ob.cells true)) 8 (4 : Int) (0 + vLn
  (Row.mk (List.take 8 (List.drop 0 (gC enR g))) true (Ob.cells true)) (0 : Int) + vLn (Row.mk (List.take 8 (List.drop 0 (gC enR g))) true (Ob.cells true)) (1 : Int) + vLn
  (Row.mk (List.take 8 (List.drop 0 (gC enR g))) true (Ob.cells true)) (2 : Int) + vLn (Row.mk (List.take 8 (List.drop 0 (gC enR g))) true (Ob.cells true)) (3 : Int)) /\ IsZ
  (Row.mk (iCells IntKind.i64 (dI (Row.mk (iCells IntKind.i64 (dI (Row.mk (iCells IntKind.i64 (dI (Row.mk (iCells IntKind.i64 ([] ++ vNs (Row.mk (List.take 8 (List.drop 0
  (gC enR g))) true (Ob.cells true)) (0 : Int))) false (Ob.cells true)) ++ vNs (Row.mk (List.take 8 (List.drop 0 (gC enR g))) true (Ob.cells true)) (1 : Int))) false
  (Ob.cells true)) ++ vNs (Row.mk (List.take 8 (List.drop 0 (gC enR g))) true (Ob.cells true)) (2 : Int))) false (Ob.cells true)) ++ vNs (Row.mk (List.take 8 (List.drop 0
  (gC enR g))) true (Ob.cells true)) (3 : Int))) false (Ob.cells true)) (0 + vLn (Row.mk (List.take 8 (List.drop 0 (gC enR g))) true (Ob.cells true)) (0 : Int) + vLn (Row.mk
  (List.take 8 (List.drop 0 (gC enR g))) true (Ob.cells true)) (1 : Int) + vLn (Row.mk (List.take 8 (List.drop 0 (gC enR g))) true (Ob.cells true)) (2 : Int) + vLn (Row.mk
  (List.take 8 (List.drop 0 (gC enR g))) true (Ob.cells true)) (3 : Int))))))) /\ (br (vOk (Row.mk (List.take 8 (List.drop 0 (gC enR g))) true (Ob.cells true)) (4 : Int))
  ((((True /\ (True /\ (True /\ True))) /\ ((((8 <= List.length (gC enR g) /\ Plain (List.take 8 (List.drop 0 (gC enR g)))) /\ True) /\ ((True /\ True) /\ ((True /\ True) /\
  (True /\ (Plain (iCells IntKind.i64 (dI (Row.mk (iCells IntKind.i64 (dI (Row.mk (iCells IntKind.i64 (dI (Row.mk (iCells IntKind.i64 (dI (Row.mk (iCells IntKind.i64 ([] ++
  vNs (Row.mk (List.take 8 (List.drop 0 (gC enR g))) true (Ob.cells true)) (0 : Int))) false (Ob.cells true)) ++ vNs (Row.mk (List.take 8 (List.drop 0 (gC enR g))) true
  (Ob.cells true)) (1 : Int))) false (Ob.cells true)) ++ vNs (Row.mk (List.take 8 (List.drop 0 (gC enR g))) true (Ob.cells true)) (2 : Int))) false (Ob.cells true)) ++ vNs
  (Row.mk (List.take 8 (List.drop 0 (gC enR g))) true (Ob.cells true)) (3 : Int))) false (Ob.cells true)) ++ vNs (Row.mk (List.take 8 (List.drop 0 (gC enR g))) true
  (Ob.cells true)) (4 : Int))) /\ True))))) /\ ((Plain (iCells IntKind.i64 (dI (Row.mk (iCells IntKind.i64 (dI (Row.mk (iCells IntKind.i64 (dI (Row.mk (iCells IntKind.i64
  (dI (Row.mk (iCells IntKind.i64 (dI (Row.mk (iCells IntKind.i64 ([] ++ vNs (Row.mk (List.take 8 (List.drop 0 (gC enR g))) true (Ob.cells true)) (0 : Int))) false (Ob.cells
  true)) ++ vNs (Row.mk (List.take 8 (List.drop 0 (gC enR g))) true (Ob.cells true)) (1 : Int))) false (Ob.cells true)) ++ vNs (Row.mk (List.take 8 (List.drop 0 (gC enR g)))
  true (Ob.cells true)) (2 : Int))) false (Ob.cells true)) ++ vNs (Row.mk (List.take 8 (List.drop 0 (gC enR g))) true (Ob.cells true)) (3 : Int))) false (Ob.cells true)) ++
  vNs (Row.mk (List.take 8 (List.drop 0 (gC enR g))) true (Ob.cells true)) (4 : Int))) false (Ob.cells true)) ++ vNs (Row.mk (List.take 8 (List.drop 0 (gC enR g))) true
  (Ob.cells true)) (5 : Int))) /\ True) /\ (IsF (Row.mk (List.take 8 (List.drop 0 (gC enR g))) true (Ob.cells true)) 8 (5 : Int) (0 + vLn (Row.mk (List.take 8 (List.drop 0
  (gC enR g))) true (Ob.cells true)) (0 : Int) + vLn (Row.mk (List.take 8 (List.drop 0 (gC enR g))) true (Ob.cells true)) (1 : Int) + vLn (Row.mk (List.take 8 (List.drop 0
  (gC enR g))) true (Ob.cells true)) (2 : Int) + vLn (Row.mk (List.take 8 (List.drop 0 (gC enR g))) true (Ob.cells true)) (3 : Int) + vLn (Row.mk (List.take 8 (List.drop 0
  (gC enR g))) true (Ob.cells true)) (4 : Int)) /\ IsZ (Row.mk (iCells IntKind.i64 (dI (Row.mk (iCells IntKind.i64 (dI (Row.mk (iCells IntKind.i64 (dI (Row.mk (iCells
  IntKind.i64 (dI (Row.mk (iCells IntKind.i64 ([] ++ vNs (Row.mk (List.take 8 (List.drop 0 (gC enR g))) true (Ob.cells true)) (0 : Int))) false (Ob.cells true)) ++ vNs
  (Row.mk (List.take 8 (List.drop 0 (gC enR g))) true (Ob.cells true)) (1 : Int))) false (Ob.cells true)) ++ vNs (Row.mk (List.take 8 (List.drop 0 (gC enR g))) true
  (Ob.cells true)) (2 : Int))) false (Ob.cells true)) ++ vNs (Row.mk (List.take 8 (List.drop 0 (gC enR g))) true (Ob.cells true)) (3 : Int))) false (Ob.cells true)) ++ vNs
  (Row.mk (List.take 8 (List.drop 0 (gC enR g))) true (Ob.cells true)) (4 : Int))) false (Ob.cells true)) (0 + vLn (Row.mk (List.take 8 (List.drop 0 (gC enR g))) true
  (Ob.cells true)) (0 : Int) + vLn (Row.mk (List.take 8 (List.drop 0 (gC enR g))) true (Ob.cells true)) (1 : Int) + vLn (Row.mk (List.take 8 (List.drop 0 (gC enR g))) true
  (Ob.cells true)) (2 : Int) + vLn (Row.mk (List.take 8 (List.drop 0 (gC enR g))) true (Ob.cells true)) (3 : Int) + vLn (Row.mk (List.take 8 (List.drop 0 (gC enR g))) true
  (Ob.cells true)) (4 : Int))))))) /\ (br (vOk (Row.mk (List.take 8 (List.drop 0 (gC enR g))) true (Ob.cells true)) (5 : Int)) ((((True /\ (True /\ (True /\ True))) /\ ((((8
  <= List.length (gC enR g) /\ Plain (List.take 8 (List.drop 0 (gC enR g)))) /\ True) /\ ((True /\ True) /\ ((True /\ True) /\ (True /\ (Plain (iCells IntKind.i64 (dI
  (Row.mk (iCells IntKind.i64 (dI (Row.mk (iCells IntKind.i64 (dI (Row.mk (iCells IntKind.i64 (dI (Row.mk (iCells IntKind.i64 (dI (Row.mk (iCells IntKind.i64 ([] ++ vNs
  (Row.mk (List.take 8 (List.drop 0 (gC enR g))) true (Ob.cells true)) (0 : Int))) false (Ob.cells true)) ++ vNs (Row.mk (List.take 8 (List.drop 0 (gC enR g))) true
  (Ob.cells true)) (1 : Int))) false (Ob.cells true)) ++ vNs (Row.mk (List.take 8 (List.drop 0 (gC enR g))) true (Ob.cells true)) (2 : Int))) false (Ob.cells true)) ++ vNs
  (Row.mk (List.take 8 (List.drop 0 (gC enR g))) true (Ob.cells true)) (3 : Int))) false (Ob.cells true)) ++ vNs (Row.mk (List.take 8 (List.drop 0 (gC enR g))) true
  (Ob.cells true)) (4 : Int))) false (Ob.cells true)) ++ vNs (Row.mk (List.take 8 (List.drop 0 (gC enR g))) true (Ob.cells true)) (5 : Int))) /\ True))))) /\ ((Plain (iCells
  IntKind.i64 (dI (Row.mk (iCells IntKind.i64 (dI (Row.mk (iCells IntKind.i64 (dI (Row.mk (iCells IntKind.i64 (dI (Row.mk (iCells IntKind.i64 (dI (Row.mk (iCells IntKind.i64
  (dI (Row.mk (iCells IntKind.i64 ([] ++ vNs (Row.mk (List.take 8 (List.drop 0 (gC enR g))) true (Ob.cells true)) (0 : Int))) false (Ob.cells true)) ++ vNs (Row.mk
  (List.take 8 (List.drop 0 (gC enR g))) true (Ob.cells true)) (1 : Int))) false (Ob.cells true)) ++ vNs (Row.mk (List.take 8 (List.drop 0 (gC enR g))) true (Ob.cells true))
  (2 : Int))) false (Ob.cells true)) ++ vNs (Row.mk (List.take 8 (List.drop 0 (gC enR g))) true (Ob.cells true)) (3 : Int))) false (Ob.cells true)) ++ vNs (Row.mk (List.take
  8 (List.drop 0 (gC enR g))) true (Ob.cells true)) (4 : Int))) false (Ob.cells true)) ++ vNs (Row.mk (List.take 8 (List.drop 0 (gC enR g))) true (Ob.cells true)) (5 :
  Int))) false (Ob.cells true)) ++ vNs (Row.mk (List.take 8 (List.drop 0 (gC enR g))) true (Ob.cells true)) (6 : Int))) /\ True) /\ (IsF (Row.mk (List.take 8 (List.drop 0
  (gC enR g))) true (Ob.cells true)) 8 (6 : Int) (0 + vLn (Row.mk (List.take 8 (List.drop 0 (gC enR g))) true (Ob.cells true)) (0 : Int) + vLn (Row.mk (List.take 8
  (List.drop 0 (gC enR g))) true (Ob.cells true)) (1 : Int) + vLn (Row.mk (List.take 8 (List.drop 0 (gC enR g))) true (Ob.cells true)) (2 : Int) + vLn (Row.mk (List.take 8
  (List.drop 0 (gC enR g))) true (Ob.cells true)) (3 : Int) + vLn (Row.mk (List.take 8 (List.drop 0 (gC enR g))) true (Ob.cells true)) (4 : Int) + vLn (Row.mk (List.take 8
  (List.drop 0 (gC enR g))) true (Ob.cells true)) (5 : Int)) /\ IsZ (Row.mk (iCells IntKind.i64 (dI (Row.mk (iCells IntKind.i64 (dI (Row.mk (iCells IntKind.i64 (dI (Row.mk
  (iCells IntKind.i64 (dI (Row.mk (iCells IntKind.i64 (dI (Row.mk (iCells IntKind.i64 ([] ++ vNs (Row.mk (List.take 8 (List.drop 0 (gC enR g))) true (Ob.cells true)) (0 :
  Int))) false (Ob.cells true)) ++ vNs (Row.mk (List.take 8 (List.drop 0 (gC enR g))) true (Ob.cells true)) (1 : Int))) false (Ob.cells true)) ++ vNs (Row.mk (List.take 8
  (List.drop 0 (gC enR g))) true (Ob.cells true)) (2 : Int))) false (Ob.cells true)) ++ vNs (Row.mk (List.take 8 (List.drop 0 (gC enR g))) true (Ob.cells true)) (3 : Int)))
  false (Ob.cells true)) ++ vNs (Row.mk (List.take 8 (List.drop 0 (gC enR g))) true (Ob.cells true)) (4 : Int))) false (Ob.cells true)) ++ vNs (Row.mk (List.take 8
  (List.drop 0 (gC enR g))) true (Ob.cells true)) (5 : Int))) false (Ob.cells true)) (0 + vLn (Row.mk (List.take 8 (List.drop 0 (gC enR g))) true (Ob.cells true)) (0 : Int)
  + vLn (Row.mk (List.take 8 (List.drop 0 (gC enR g))) true (Ob.cells true)) (1 : Int) + vLn (Row.mk (List.take 8 (List.drop 0 (gC enR g))) true (Ob.cells true)) (2 : Int) +
  vLn (Row.mk (List.take 8 (List.drop 0 (gC enR g))) true (Ob.cells true)) (3 : Int) + vLn (Row.mk (List.take 8 (List.drop 0 (gC enR g))) true (Ob.cells true)) (4 : Int) +
  vLn (Row.mk (List.take 8 (List.drop 0 (gC enR g))) true (Ob.cells true)) (5 : Int))))))) /\ (br (vOk (Row.mk (List.take 8 (List.drop 0 (gC enR g))) true (Ob.cells true))
  (6 : Int)) ((((True /\ (True /\ (True /\ True))) /\ ((((8 <= List.length (gC enR g) /\ Plain (List.take 8 (List.drop 0 (gC enR g)))) /\ True) /\ ((True /\ True) /\ ((True
  /\ True) /\ (True /\ (Plain (iCells IntKind.i64 (dI (Row.mk (iCells IntKind.i64 (dI (Row.mk (iCells IntKind.i64 (dI (Row.mk (iCells IntKind.i64 (dI (Row.mk (iCells
  IntKind.i64 (dI (Row.mk (iCells IntKind.i64 (dI (Row.mk (iCells IntKind.i64 ([] ++ vNs (Row.mk (List.take 8 (List.drop 0 (gC enR g))) true (Ob.cells true)) (0 : Int)))
  false (Ob.cells true)) ++ vNs (Row.mk (List.take 8 (List.drop 0 (gC enR g))) true (Ob.cells true)) (1 : Int))) false (Ob.cells true)) ++ vNs (Row.mk (List.take 8
  (List.drop 0 (gC enR g))) true (Ob.cells true)) (2 : Int))) false (Ob.cells true)) ++ vNs (Row.mk (List.take 8 (List.drop 0 (gC enR g))) true (Ob.cells true)) (3 : Int)))
  false (Ob.cells true)) ++ vNs (Row.mk (List.take 8 (List.drop 0 (gC enR g))) true (Ob.cells true)) (4 : Int))) false (Ob.cells true)) ++ vNs (Row.mk (List.take 8
  (List.drop 0 (gC enR g))) true (Ob.cells true)) (5 : Int))) false (Ob.cells true)) ++ vNs (Row.mk (List.take 8 (List.drop 0 (gC enR g))) true (Ob.cells true)) (6 : Int)))
  /\ True))))) /\ ((Plain (iCells IntKind.i64 (dI (Row.mk (iCells IntKind.i64 (dI (Row.mk (iCells IntKind.i64 (dI (Row.mk (iCells IntKind.i64 (dI (Row.mk (iCells IntKind.i64
  (dI (Row.mk (iCells IntKind.i64 (dI (Row.mk (iCells IntKind.i64 (dI (Row.mk (iCells IntKind.i64 ([] ++ vNs (Row.mk (List.take 8 (List.drop 0 (gC enR g))) true (Ob.cells
  true)) (0 : Int))) false (Ob.cells true)) ++ vNs (Row.mk (List.take 8 (List.drop 0 (gC enR g))) true (Ob.cells true)) (1 : Int))) false (Ob.cells true)) ++ vNs (Row.mk
  (List.take 8 (List.drop 0 (gC enR g))) true (Ob.cells true)) (2 : Int))) false (Ob.cells true)) ++ vNs (Row.mk (List.take 8 (List.drop 0 (gC enR g))) true (Ob.cells true))
  (3 : Int))) false (Ob.cells true)) ++ vNs (Row.mk (List.take 8 (List.drop 0 (gC enR g))) true (Ob.cells true)) (4 : Int))) false (Ob.cells true)) ++ vNs (Row.mk (List.take
  8 (List.drop 0 (gC enR g))) true (Ob.cells true)) (5 : Int))) false (Ob.cells true)) ++ vNs (Row.mk (List.take 8 (List.drop 0 (gC enR g))) true (Ob.cells true)) (6 :
  Int))) false (Ob.cells true)) ++ vNs (Row.mk (List.take 8 (List.drop 0 (gC enR g))) true (Ob.cells true)) (7 : Int))) /\ True) /\ (IsF (Row.mk (List.take 8 (List.drop 0
  (gC enR g))) true (Ob.cells true)) 8 (7 : Int) (0 + vLn (Row.mk (List.take 8 (List.drop 0 (gC enR g))) true (Ob.cells true)) (0 : Int) + vLn (Row.mk (List.take 8
  (List.drop 0 (gC enR g))) true (Ob.cells true)) (1 : Int) + vLn (Row.mk (List.take 8 (List.drop 0 (gC enR g))) true (Ob.cells true)) (2 : Int) + vLn (Row.mk (List.take 8
  (List.drop 0 (gC enR g))) true (Ob.cells true)) (3 : Int) + vLn (Row.mk (List.take 8 (List.drop 0 (gC enR g))) true (Ob.cells true)) (4 : Int) + vLn (Row.mk (List.take 8
  (List.drop 0 (gC enR g))) true (Ob.cells true)) (5 : Int) + vLn (Row.mk (List.take 8 (List.drop 0 (gC enR g))) true (Ob.cells true)) (6 : Int)) /\ IsZ (Row.mk (iCells
  IntKind.i64 (dI (Row.mk (iCells IntKind.i64 (dI (Row.mk (iCells IntKind.i64 (dI (Row.mk (iCells IntKind.i64 (dI (Row.mk (iCells IntKind.i64 (dI (Row.mk (iCells IntKind.i64
  (dI (Row.mk (iCells IntKind.i64 ([] ++ vNs (Row.mk (List.take 8 (List.drop 0 (gC enR g))) true (Ob.cells true)) (0 : Int))) false (Ob.cells true)) ++ vNs (Row.mk
  (List.take 8 (List.drop 0 (gC enR g))) true (Ob.cells true)) (1 : Int))) false (Ob.cells true)) ++ vNs (Row.mk (List.take 8 (List.drop 0 (gC enR g))) true (Ob.cells true))
  (2 : Int))) false (Ob.cells true)) ++ vNs (Row.mk (List.take 8 (List.drop 0 (gC enR g))) true (Ob.cells true)) (3 : Int))) false (Ob.cells true)) ++ vNs (Row.mk (List.take
  8 (List.drop 0 (gC enR g))) true (Ob.cells true)) (4 : Int))) false (Ob.cells true)) ++ vNs (Row.mk (List.take 8 (List.drop 0 (gC enR g))) true (Ob.cells true)) (5 :
  Int))) false (Ob.cells true)) ++ vNs (Row.mk (List.take 8 (List.drop 0 (gC enR g))) true (Ob.cells true)) (6 : Int))) false (Ob.cells true)) (0 + vLn (Row.mk (List.take 8
  (List.drop 0 (gC enR g))) true (Ob.cells true)) (0 : Int) + vLn (Row.mk (List.take 8 (List.drop 0 (gC enR g))) true (Ob.cells true)) (1 : Int) + vLn (Row.mk (List.take 8
  (List.drop 0 (gC enR g))) true (Ob.cells true)) (2 : Int) + vLn (Row.mk (List.take 8 (List.drop 0 (gC enR g))) true (Ob.cells true)) (3 : Int) + vLn (Row.mk (List.take 8
  (List.drop 0 (gC enR g))) true (Ob.cells true)) (4 : Int) + vLn (Row.mk (List.take 8 (List.drop 0 (gC enR g))) true (Ob.cells true)) (5 : Int) + vLn (Row.mk (List.take 8
  (List.drop 0 (gC enR g))) true (Ob.cells true)) (6 : Int))))))) /\ (br (vOk (Row.mk (List.take 8 (List.drop 0 (gC enR g))) true (Ob.cells true)) (7 : Int)) (∃ g2 : GH,
  ((PH g2) /\ ((0 = 0) /\ ((List.length g2.2 = List.length y.1) /\ ((0 = 0) /\ ((g2.3 = y.2) /\ ((0 = 0) /\ ((0 = 0) /\ ((0 = 0) /\ ((0 = 0) /\ ((0 = 0) /\ ((g2.8 = true) /\
  ((Eq (α := List Value) (gC enR g2.1) (gC enR g)) /\ ((Plain (gC enR g2.1)) /\ ((0 = 0) /\ ((List.length g2.7 = 0 + vLn (Row.mk (List.take 8 (List.drop 0 (gC enR g))) true
  (Ob.cells true)) (0 : Int) + vLn (Row.mk (List.take 8 (List.drop 0 (gC enR g))) true (Ob.cells true)) (1 : Int) + vLn (Row.mk (List.take 8 (List.drop 0 (gC enR g))) true
  (Ob.cells true)) (2 : Int) + vLn (Row.mk (List.take 8 (List.drop 0 (gC enR g))) true (Ob.cells true)) (3 : Int) + vLn (Row.mk (List.take 8 (List.drop 0 (gC enR g))) true
  (Ob.cells true)) (4 : Int) + vLn (Row.mk (List.take 8 (List.drop 0 (gC enR g))) true (Ob.cells true)) (5 : Int) + vLn (Row.mk (List.take 8 (List.drop 0 (gC enR g))) true
  (Ob.cells true)) (6 : Int) + vLn (Row.mk (List.take 8 (List.drop 0 (gC enR g))) true (Ob.cells true)) (7 : Int)) /\ ((g2.4 = y.3) /\ ((g2.5 = y.4) /\ ((g2.6 = y.5) /\ ((Eq
  (α := List Value) (iCells IntKind.i64 g2.2) (iCells IntKind.i64 y.1)) /\ ((Plain (iCells IntKind.i64 g2.2)) /\ ((Eq (α := List Value) (iCells IntKind.i64 g2.7) (iCells
  IntKind.i64 (dI (Row.mk (iCells IntKind.i64 (dI (Row.mk (iCells IntKind.i64 (dI (Row.mk (iCells IntKind.i64 (dI (Row.mk (iCells IntKind.i64 (dI (Row.mk (iCells IntKind.i64
  (dI (Row.mk (iCells IntKind.i64 (dI (Row.mk (iCells IntKind.i64 ([] ++ vNs (Row.mk (List.take 8 (List.drop 0 (gC enR g))) true (Ob.cells true)) (0 : Int))) false (Ob.cells
  true)) ++ vNs (Row.mk (List.take 8 (List.drop 0 (gC enR g))) true (Ob.cells true)) (1 : Int))) false (Ob.cells true)) ++ vNs (Row.mk (List.take 8 (List.drop 0 (gC enR g)))
  true (Ob.cells true)) (2 : Int))) false (Ob.cells true)) ++ vNs (Row.mk (List.take 8 (List.drop 0 (gC enR g))) true (Ob.cells true)) (3 : Int))) false (Ob.cells true)) ++
  vNs (Row.mk (List.take 8 (List.drop 0 (gC enR g))) true (Ob.cells true)) (4 : Int))) false (Ob.cells true)) ++ vNs (Row.mk (List.take 8 (List.drop 0 (gC enR g))) true
  (Ob.cells true)) (5 : Int))) false (Ob.cells true)) ++ vNs (Row.mk (List.take 8 (List.drop 0 (gC enR g))) true (Ob.cells true)) (6 : Int))) false (Ob.cells true)) ++ vNs
  (Row.mk (List.take 8 (List.drop 0 (gC enR g))) true (Ob.cells true)) (7 : Int)))) /\ ((Plain (iCells IntKind.i64 g2.7)) /\ ((g2.12 = (-1 : Int)) /\ ((g2.13 = (0 : Int)) /\
  ((g2.14 = (0 : Int)) /\ ((g2.15 = false) /\ ((g2.9 = (0 : Int)) /\ ((g2.10 = (0 : Int)) /\ ((g2.11 = (0 : Int)) /\ (∀ (y2 : Unit), ((True) → (∃ y3 : Unit, ((True) /\
  ((true = true) /\ ((Eq (α := List Value) (gC enR rr) (gC enR g2.1)) /\ ((Plain (gC enR rr)) /\ True))))))))))))))))))))))))))))))))))))) (br (vRt (Row.mk (List.take 8
  (List.drop 0 (gC enR g))) true (Ob.cells true)) (7 : Int)) ((noGo (PanicEntry.mk (Value.iface 10 (Value.string dS)) true false :: reps 10 dS (Int.toNat (vDep (Row.mk
  (List.take 8 (List.drop 0 (gC enR g))) true (Ob.cells true)) (7 : Int)))) = true) /\ (∃ g2 : GH, ((PH g2) /\ ((0 = 0) /\ ((List.length g2.2 = List.length y.1) /\ ((0 = 0)
  /\ ((g2.3 = y.2) /\ ((0 = 0) /\ ((0 = 0) /\ ((0 = 0) /\ ((0 = 0) /\ ((0 = 0) /\ ((g2.8 = true) /\ ((Eq (α := List Value) (gC enR g2.1) (gC enR g)) /\ ((Plain (gC enR
  g2.1)) /\ ((0 = 0) /\ ((List.length g2.7 = 0 + vLn (Row.mk (List.take 8 (List.drop 0 (gC enR g))) true (Ob.cells true)) (0 : Int) + vLn (Row.mk (List.take 8 (List.drop 0
  (gC enR g))) true (Ob.cells true)) (1 : Int) + vLn (Row.mk (List.take 8 (List.drop 0 (gC enR g))) true (Ob.cells true)) (2 : Int) + vLn (Row.mk (List.take 8 (List.drop 0
  (gC enR g))) true (Ob.cells true)) (3 : Int) + vLn (Row.mk (List.take 8 (List.drop 0 (gC enR g))) true (Ob.cells true)) (4 : Int) + vLn (Row.mk (List.take 8 (List.drop 0
  (gC enR g))) true (Ob.cells true)) (5 : Int) + vLn (Row.mk (List.take 8 (List.drop 0 (gC enR g))) true (Ob.cells true)) (6 : Int) + vLn (Row.mk (List.take 8 (List.drop 0
  (gC enR g))) true (Ob.cells true)) (7 : Int)) /\ ((g2.4 = y.3) /\ ((g2.5 = y.4) /\ ((g2.6 = y.5) /\ ((Eq (α := List Value) (iCells IntKind.i64 g2.2) (iCells IntKind.i64
  y.1)) /\ ((Plain (iCells IntKind.i64 g2.2)) /\ ((Eq (α := List Value) (iCells IntKind.i64 g2.7) (iCells IntKind.i64 (dI (Row.mk (iCells IntKind.i64 (dI (Row.mk (iCells
  IntKind.i64 (dI (Row.mk (iCells IntKind.i64 (dI (Row.mk (iCells IntKind.i64 (dI (Row.mk (iCells IntKind.i64 (dI (Row.mk (iCells IntKind.i64 (dI (Row.mk (iCells IntKind.i64
  ([] ++ vNs (Row.mk (List.take 8 (List.drop 0 (gC enR g))) true (Ob.cells true)) (0 : Int))) false (Ob.cells true)) ++ vNs (Row.mk (List.take 8 (List.drop 0 (gC enR g)))
  true (Ob.cells true)) (1 : Int))) false (Ob.cells true)) ++ vNs (Row.mk (List.take 8 (List.drop 0 (gC enR g))) true (Ob.cells true)) (2 : Int))) false (Ob.cells true)) ++
  vNs (Row.mk (List.take 8 (List.drop 0 (gC enR g))) true (Ob.cells true)) (3 : Int))) false (Ob.cells true)) ++ vNs (Row.mk (List.take 8 (List.drop 0 (gC enR g))) true
  (Ob.cells true)) (4 : Int))) false (Ob.cells true)) ++ vNs (Row.mk (List.take 8 (List.drop 0 (gC enR g))) true (Ob.cells true)) (5 : Int))) false (Ob.cells true)) ++ vNs
  (Row.mk (List.take 8 (List.drop 0 (gC enR g))) true (Ob.cells true)) (6 : Int))) false (Ob.cells true)) ++ vNs (Row.mk (List.take 8 (List.drop 0 (gC enR g))) true
  (Ob.cells true)) (7 : Int)))) /\ ((Plain (iCells IntKind.i64 g2.7)) /\ ((g2.12 = (-2 : Int)) /\ ((g2.13 = (0 : Int)) /\ ((g2.14 = (0 : Int)) /\ ((g2.15 = false) /\ ((g2.9
  = (2 : Int)) /\ ((g2.10 = (0 : Int)) /\ ((g2.11 = (0 : Int)) /\ (∀ (y2 : Unit), ((True) → (∃ y3 : Unit, ((True) /\ ((true = true) /\ ((Eq (α := List Value) (gC enR rr) (gC
  enR g2.1)) /\ ((Plain (gC enR rr)) /\ True)))))))))))))))))))))))))))))))))))))) ((true = true) /\ ((Value.agg (Array.mk [Value.int IntKind.i64 (vCode (Row.mk (List.take 8
  (List.drop 0 (gC enR g))) true (Ob.cells true)) (7 : Int)), Value.int IntKind.i64 (vPos (Row.mk (List.take 8 (List.drop 0 (gC enR g))) true (Ob.cells true)) (7 : Int))]) =
  Value.agg (Array.mk [Value.int IntKind.i64 (vCode (Row.mk (List.take 8 (List.drop 0 (gC enR g))) true (Ob.cells true)) (7 : Int)), Value.int IntKind.i64 (vPos (Row.mk
  (List.take 8 (List.drop 0 (gC enR g))) true (Ob.cells true)) (7 : Int))])) /\ (∃ g2 : GH, ((PH g2) /\ ((0 = 0) /\ ((List.length g2.2 = List.length y.1) /\ ((0 = 0) /\
  ((g2.3 = y.2) /\ ((0 = 0) /\ ((0 = 0) /\ ((0 = 0) /\ ((0 = 0) /\ ((0 = 0) /\ ((g2.8 = true) /\ ((Eq (α := List Value) (gC enR g2.1) (gC enR g)) /\ ((Plain (gC enR g2.1))
  /\ ((0 = 0) /\ ((List.length g2.7 = 0 + vLn (Row.mk (List.take 8 (List.drop 0 (gC enR g))) true (Ob.cells true)) (0 : Int) + vLn (Row.mk (List.take 8 (List.drop 0 (gC enR
  g))) true (Ob.cells true)) (1 : Int) + vLn (Row.mk (List.take 8 (List.drop 0 (gC enR g))) true (Ob.cells true)) (2 : Int) + vLn (Row.mk (List.take 8 (List.drop 0 (gC enR
  g))) true (Ob.cells true)) (3 : Int) + vLn (Row.mk (List.take 8 (List.drop 0 (gC enR g))) true (Ob.cells true)) (4 : Int) + vLn (Row.mk (List.take 8 (List.drop 0 (gC enR
  g))) true (Ob.cells true)) (5 : Int) + vLn (Row.mk (List.take 8 (List.drop 0 (gC enR g))) true (Ob.cells true)) (6 : Int) + vLn (Row.mk (List.take 8 (List.drop 0 (gC enR
  g))) true (Ob.cells true)) (7 : Int)) /\ ((g2.4 = y.3) /\ ((g2.5 = y.4) /\ ((g2.6 = y.5) /\ ((Eq (α := List Value) (iCells IntKind.i64 g2.2) (iCells IntKind.i64 y.1)) /\
  ((Plain (iCells IntKind.i64 g2.2)) /\ ((Eq (α := List Value) (iCells IntKind.i64 g2.7) (iCells IntKind.i64 (dI (Row.mk (iCells IntKind.i64 (dI (Row.mk (iCells IntKind.i64
  (dI (Row.mk (iCells IntKind.i64 (dI (Row.mk (iCells IntKind.i64 (dI (Row.mk (iCells IntKind.i64 (dI (Row.mk (iCells IntKind.i64 (dI (Row.mk (iCells IntKind.i64 ([] ++ vNs
  (Row.mk (List.take 8 (List.drop 0 (gC enR g))) true (Ob.cells true)) (0 : Int))) false (Ob.cells true)) ++ vNs (Row.mk (List.take 8 (List.drop 0 (gC enR g))) true
  (Ob.cells true)) (1 : Int))) false (Ob.cells true)) ++ vNs (Row.mk (List.take 8 (List.drop 0 (gC enR g))) true (Ob.cells true)) (2 : Int))) false (Ob.cells true)) ++ vNs
  (Row.mk (List.take 8 (List.drop 0 (gC enR g))) true (Ob.cells true)) (3 : Int))) false (Ob.cells true)) ++ vNs (Row.mk (List.take 8 (List.drop 0 (gC enR g))) true
  (Ob.cells true)) (4 : Int))) false (Ob.cells true)) ++ vNs (Row.mk (List.take 8 (List.drop 0 (gC enR g))) true (Ob.cells true)) (5 : Int))) false (Ob.cells true)) ++ vNs
  (Row.mk (List.take 8 (List.drop 0 (gC enR g))) true (Ob.cells true)) (6 : Int))) false (Ob.cells true)) ++ vNs (Row.mk (List.take 8 (List.drop 0 (gC enR g))) true
  (Ob.cells true)) (7 : Int)))) /\ ((Plain (iCells IntKind.i64 g2.7)) /\ ((g2.12 = (7 : Int)) /\ ((g2.13 = vCode (Row.mk (List.take 8 (List.drop 0 (gC enR g))) true
  (Ob.cells true)) (7 : Int)) /\ ((g2.14 = vPos (Row.mk (List.take 8 (List.drop 0 (gC enR g))) true (Ob.cells true)) (7 : Int)) /\ ((g2.15 = true) /\ ((g2.9 = (0 : Int)) /\
  ((g2.10 = (0 : Int)) /\ ((g2.11 = (0 : Int)) /\ (∀ (y2 : Unit), ((True) → (∃ y3 : Unit, ((True) /\ ((true = true) /\ ((Eq (α := List Value) (gC enR rr) (gC enR g2.1)) /\
  ((Plain (gC enR rr)) /\ True)))))))))))))))))))))))))))))))))))))))))) (br (vRt (Row.mk (List.take 8 (List.drop 0 (gC enR g))) true (Ob.cells true)) (6 : Int)) ((noGo
  (PanicEntry.mk (Value.iface 10 (Value.string dS)) true false :: reps 10 dS (Int.toNat (vDep (Row.mk (List.take 8 (List.drop 0 (gC enR g))) true (Ob.cells true)) (6 :
  Int)))) = true) /\ (∃ g2 : GH, ((PH g2) /\ ((0 = 0) /\ ((List.length g2.2 = List.length y.1) /\ ((0 = 0) /\ ((g2.3 = y.2) /\ ((0 = 0) /\ ((0 = 0) /\ ((0 = 0) /\ ((0 = 0)
  /\ ((0 = 0) /\ ((g2.8 = true) /\ ((Eq (α := List Value) (gC enR g2.1) (gC enR g)) /\ ((Plain (gC enR g2.1)) /\ ((0 = 0) /\ ((List.length g2.7 = 0 + vLn (Row.mk (List.take
  8 (List.drop 0 (gC enR g))) true (Ob.cells true)) (0 : Int) + vLn (Row.mk (List.take 8 (List.drop 0 (gC enR g))) true (Ob.cells true)) (1 : Int) + vLn (Row.mk (List.take 8
  (List.drop 0 (gC enR g))) true (Ob.cells true)) (2 : Int) + vLn (Row.mk (List.take 8 (List.drop 0 (gC enR g))) true (Ob.cells true)) (3 : Int) + vLn (Row.mk (List.take 8
  (List.drop 0 (gC enR g))) true (Ob.cells true)) (4 : Int) + vLn (Row.mk (List.take 8 (List.drop 0 (gC enR g))) true (Ob.cells true)) (5 : Int) + vLn (Row.mk (List.take 8
  (List.drop 0 (gC enR g))) true (Ob.cells true)) (6 : Int)) /\ ((g2.4 = y.3) /\ ((g2.5 = y.4) /\ ((g2.6 = y.5) /\ ((Eq (α := List Value) (iCells IntKind.i64 g2.2) (iCells
  IntKind.i64 y.1)) /\ ((Plain (iCells IntKind.i64 g2.2)) /\ ((Eq (α := List Value) (iCells IntKind.i64 g2.7) (iCells IntKind.i64 (dI (Row.mk (iCells IntKind.i64 (dI (Row.mk
  (iCells IntKind.i64 (dI (Row.mk (iCells IntKind.i64 (dI (Row.mk (iCells IntKind.i64 (dI (Row.mk (iCells IntKind.i64 (dI (Row.mk (iCells IntKind.i64 ([] ++ vNs (Row.mk
  (List.take 8 (List.drop 0 (gC enR g))) true (Ob.cells true)) (0 : Int))) false (Ob.cells true)) ++ vNs (Row.mk (List.take 8 (List.drop 0 (gC enR g))) true (Ob.cells true))
  (1 : Int))) false (Ob.cells true)) ++ vNs (Row.mk (List.take 8 (List.drop 0 (gC enR g))) true (Ob.cells true)) (2 : Int))) false (Ob.cells true)) ++ vNs (Row.mk (List.take
  8 (List.drop 0 (gC enR g))) true (Ob.cells true)) (3 : Int))) false (Ob.cells true)) ++ vNs (Row.mk (List.take 8 (List.drop 0 (gC enR g))) true (Ob.cells true)) (4 :
  Int))) false (Ob.cells true)) ++ vNs (Row.mk (List.take 8 (List.drop 0 (gC enR g))) true (Ob.cells true)) (5 : Int))) false (Ob.cells true)) ++ vNs (Row.mk (List.take 8
  (List.drop 0 (gC enR g))) true (Ob.cells true)) (6 : Int)))) /\ ((Plain (iCells IntKind.i64 g2.7)) /\ ((g2.12 = (-2 : Int)) /\ ((g2.13 = (0 : Int)) /\ ((g2.14 = (0 : Int))
  /\ ((g2.15 = false) /\ ((g2.9 = (2 : Int)) /\ ((g2.10 = (0 : Int)) /\ ((g2.11 = (0 : Int)) /\ (∀ (y2 : Unit), ((True) → (∃ y3 : Unit, ((True) /\ ((true = true) /\ ((Eq (α
  := List Value) (gC enR rr) (gC enR g2.1)) /\ ((Plain (gC enR rr)) /\ True)))))))))))))))))))))))))))))))))))))) ((true = true) /\ ((Value.agg (Array.mk [Value.int
  IntKind.i64 (vCode (Row.mk (List.take 8 (List.drop 0 (gC enR g))) true (Ob.cells true)) (6 : Int)), Value.int IntKind.i64 (vPos (Row.mk (List.take 8 (List.drop 0 (gC enR
  g))) true (Ob.cells true)) (6 : Int))]) = Value.agg (Array.mk [Value.int IntKind.i64 (vCode (Row.mk (List.take 8 (List.drop 0 (gC enR g))) true (Ob.cells true)) (6 :
  Int)), Value.int IntKind.i64 (vPos (Row.mk (List.take 8 (List.drop 0 (gC enR g))) true (Ob.cells true)) (6 : Int))])) /\ (∃ g2 : GH, ((PH g2) /\ ((0 = 0) /\ ((List.length
  g2.2 = List.length y.1) /\ ((0 = 0) /\ ((g2.3 = y.2) /\ ((0 = 0) /\ ((0 = 0) /\ ((0 = 0) /\ ((0 = 0) /\ ((0 = 0) /\ ((g2.8 = true) /\ ((Eq (α := List Value) (gC enR g2.1)
  (gC enR g)) /\ ((Plain (gC enR g2.1)) /\ ((0 = 0) /\ ((List.length g2.7 = 0 + vLn (Row.mk (List.take 8 (List.drop 0 (gC enR g))) true (Ob.cells true)) (0 : Int) + vLn
  (Row.mk (List.take 8 (List.drop 0 (gC enR g))) true (Ob.cells true)) (1 : Int) + vLn (Row.mk (List.take 8 (List.drop 0 (gC enR g))) true (Ob.cells true)) (2 : Int) + vLn
  (Row.mk (List.take 8 (List.drop 0 (gC enR g))) true (Ob.cells true)) (3 : Int) + vLn (Row.mk (List.take 8 (List.drop 0 (gC enR g))) true (Ob.cells true)) (4 : Int) + vLn
  (Row.mk (List.take 8 (List.drop 0 (gC enR g))) true (Ob.cells true)) (5 : Int) + vLn (Row.mk (List.take 8 (List.drop 0 (gC enR g))) true (Ob.cells true)) (6 : Int)) /\
  ((g2.4 = y.3) /\ ((g2.5 = y.4) /\ ((g2.6 = y.5) /\ ((Eq (α := List Value) (iCells IntKind.i64 g2.2) (iCells IntKind.i64 y.1)) /\ ((Plain (iCells IntKind.i64 g2.2)) /\ ((Eq
  (α := List Value) (iCells IntKind.i64 g2.7) (iCells IntKind.i64 (dI (Row.mk (iCells IntKind.i64 (dI (Row.mk (iCells IntKind.i64 (dI (Row.mk (iCells IntKind.i64 (dI (Row.mk
  (iCells IntKind.i64 (dI (Row.mk (iCells IntKind.i64 (dI (Row.mk (iCells IntKind.i64 ([] ++ vNs (Row.mk (List.take 8 (List.drop 0 (gC enR g))) true (Ob.cells true)) (0 :
  Int))) false (Ob.cells true)) ++ vNs (Row.mk (List.take 8 (List.drop 0 (gC enR g))) true (Ob.cells true)) (1 : Int))) false (Ob.cells true)) ++ vNs (Row.mk (List.take 8
  (List.drop 0 (gC enR g))) true (Ob.cells true)) (2 : Int))) false (Ob.cells true)) ++ vNs (Row.mk (List.take 8 (List.drop 0 (gC enR g))) true (Ob.cells true)) (3 : Int)))
  false (Ob.cells true)) ++ vNs (Row.mk (List.take 8 (List.drop 0 (gC enR g))) true (Ob.cells true)) (4 : Int))) false (Ob.cells true)) ++ vNs (Row.mk (List.take 8
  (List.drop 0 (gC enR g))) true (Ob.cells true)) (5 : Int))) false (Ob.cells true)) ++ vNs (Row.mk (List.take 8 (List.drop 0 (gC enR g))) true (Ob.cells true)) (6 : Int))))
  /\ ((Plain (iCells IntKind.i64 g2.7)) /\ ((g2.12 = (6 : Int)) /\ ((g2.13 = vCode (Row.mk (List.take 8 (List.drop 0 (gC enR g))) true (Ob.cells true)) (6 : Int)) /\ ((g2.14
  = vPos (Row.mk (List.take 8 (List.drop 0 (gC enR g))) true (Ob.cells true)) (6 : Int)) /\ ((g2.15 = true) /\ ((g2.9 = (0 : Int)) /\ ((g2.10 = (0 : Int)) /\ ((g2.11 = (0 :
  Int)) /\ (∀ (y2 : Unit), ((True) → (∃ y3 : Unit, ((True) /\ ((true = true) /\ ((Eq (α := List Value) (gC enR rr) (gC enR g2.1)) /\ ((Plain (gC enR rr)) /\
  True)))))))))))))))))))))))))))))))))))))))))) (br (vRt (Row.mk (List.take 8 (List.drop 0 (gC enR g))) true (Ob.cells true)) (5 : Int)) ((noGo (PanicEntry.mk (Value.iface
  10 (Value.string dS)) true false :: reps 10 dS (Int.toNat (vDep (Row.mk (List.take 8 (List.drop 0 (gC enR g))) true (Ob.cells true)) (5 : Int)))) = true) /\ (∃ g2 : GH,
  ((PH g2) /\ ((0 = 0) /\ ((List.length g2.2 = List.length y.1) /\ ((0 = 0) /\ ((g2.3 = y.2) /\ ((0 = 0) /\ ((0 = 0) /\ ((0 = 0) /\ ((0 = 0) /\ ((0 = 0) /\ ((g2.8 = true) /\
  ((Eq (α := List Value) (gC enR g2.1) (gC enR g)) /\ ((Plain (gC enR g2.1)) /\ ((0 = 0) /\ ((List.length g2.7 = 0 + vLn (Row.mk (List.take 8 (List.drop 0 (gC enR g))) true
  (Ob.cells true)) (0 : Int) + vLn (Row.mk (List.take 8 (List.drop 0 (gC enR g))) true (Ob.cells true)) (1 : Int) + vLn (Row.mk (List.take 8 (List.drop 0 (gC enR g))) true
  (Ob.cells true)) (2 : Int) + vLn (Row.mk (List.take 8 (List.drop 0 (gC enR g))) true (Ob.cells true)) (3 : Int) + vLn (Row.mk (List.take 8 (List.drop 0 (gC enR g))) true
  (Ob.cells true)) (4 : Int) + vLn (Row.mk (List.take 8 (List.drop 0 (gC enR g))) true (Ob.cells true)) (5 : Int)) /\ ((g2.4 = y.3) /\ ((g2.5 = y.4) /\ ((g2.6 = y.5) /\ ((Eq
  (α := List Value) (iCells IntKind.i64 g2.2) (iCells IntKind.i64 y.1)) /\ ((Plain (iCells IntKind.i64 g2.2)) /\ ((Eq (α := List Value) (iCells IntKind.i64 g2.7) (iCells
  IntKind.i64 (dI (Row.mk (iCells IntKind.i64 (dI (Row.mk (iCells IntKind.i64 (dI (Row.mk (iCells IntKind.i64 (dI (Row.mk (iCells IntKind.i64 (dI (Row.mk (iCells IntKind.i64
  ([] ++ vNs (Row.mk (List.take 8 (List.drop 0 (gC enR g))) true (Ob.cells true)) (0 : Int))) false (Ob.cells true)) ++ vNs (Row.mk (List.take 8 (List.drop 0 (gC enR g)))
  true (Ob.cells true)) (1 : Int))) false (Ob.cells true)) ++ vNs (Row.mk (List.take 8 (List.drop 0 (gC enR g))) true (Ob.cells true)) (2 : Int))) false (Ob.cells true)) ++
  vNs (Row.mk (List.take 8 (List.drop 0 (gC enR g))) true (Ob.cells true)) (3 : Int))) false (Ob.cells true)) ++ vNs (Row.mk (List.take 8 (List.drop 0 (gC enR g))) true
  (Ob.cells true)) (4 : Int))) false (Ob.cells true)) ++ vNs (Row.mk (List.take 8 (List.drop 0 (gC enR g))) true (Ob.cells true)) (5 : Int)))) /\ ((Plain (iCells IntKind.i64
  g2.7)) /\ ((g2.12 = (-2 : Int)) /\ ((g2.13 = (0 : Int)) /\ ((g2.14 = (0 : Int)) /\ ((g2.15 = false) /\ ((g2.9 = (2 : Int)) /\ ((g2.10 = (0 : Int)) /\ ((g2.11 = (0 : Int))
  /\ (∀ (y2 : Unit), ((True) → (∃ y3 : Unit, ((True) /\ ((true = true) /\ ((Eq (α := List Value) (gC enR rr) (gC enR g2.1)) /\ ((Plain (gC enR rr)) /\
  True)))))))))))))))))))))))))))))))))))))) ((true = true) /\ ((Value.agg (Array.mk [Value.int IntKind.i64 (vCode (Row.mk (List.take 8 (List.drop 0 (gC enR g))) true
  (Ob.cells true)) (5 : Int)), Value.int IntKind.i64 (vPos (Row.mk (List.take 8 (List.drop 0 (gC enR g))) true (Ob.cells true)) (5 : Int))]) = Value.agg (Array.mk [Value.int
  IntKind.i64 (vCode (Row.mk (List.take 8 (List.drop 0 (gC enR g))) true (Ob.cells true)) (5 : Int)), Value.int IntKind.i64 (vPos (Row.mk (List.take 8 (List.drop 0 (gC enR
  g))) true (Ob.cells true)) (5 : Int))])) /\ (∃ g2 : GH, ((PH g2) /\ ((0 = 0) /\ ((List.length g2.2 = List.length y.1) /\ ((0 = 0) /\ ((g2.3 = y.2) /\ ((0 = 0) /\ ((0 = 0)
  /\ ((0 = 0) /\ ((0 = 0) /\ ((0 = 0) /\ ((g2.8 = true) /\ ((Eq (α := List Value) (gC enR g2.1) (gC enR g)) /\ ((Plain (gC enR g2.1)) /\ ((0 = 0) /\ ((List.length g2.7 = 0 +
  vLn (Row.mk (List.take 8 (List.drop 0 (gC enR g))) true (Ob.cells true)) (0 : Int) + vLn (Row.mk (List.take 8 (List.drop 0 (gC enR g))) true (Ob.cells true)) (1 : Int) +
  vLn (Row.mk (List.take 8 (List.drop 0 (gC enR g))) true (Ob.cells true)) (2 : Int) + vLn (Row.mk (List.take 8 (List.drop 0 (gC enR g))) true (Ob.cells true)) (3 : Int) +
  vLn (Row.mk (List.take 8 (List.drop 0 (gC enR g))) true (Ob.cells true)) (4 : Int) + vLn (Row.mk (List.take 8 (List.drop 0 (gC enR g))) true (Ob.cells true)) (5 : Int)) /\
  ((g2.4 = y.3) /\ ((g2.5 = y.4) /\ ((g2.6 = y.5) /\ ((Eq (α := List Value) (iCells IntKind.i64 g2.2) (iCells IntKind.i64 y.1)) /\ ((Plain (iCells IntKind.i64 g2.2)) /\ ((Eq
  (α := List Value) (iCells IntKind.i64 g2.7) (iCells IntKind.i64 (dI (Row.mk (iCells IntKind.i64 (dI (Row.mk (iCells IntKind.i64 (dI (Row.mk (iCells IntKind.i64 (dI (Row.mk
  (iCells IntKind.i64 (dI (Row.mk (iCells IntKind.i64 ([] ++ vNs (Row.mk (List.take 8 (List.drop 0 (gC enR g))) true (Ob.cells true)) (0 : Int))) false (Ob.cells true)) ++
  vNs (Row.mk (List.take 8 (List.drop 0 (gC enR g))) true (Ob.cells true)) (1 : Int))) false (Ob.cells true)) ++ vNs (Row.mk (List.take 8 (List.drop 0 (gC enR g))) true
  (Ob.cells true)) (2 : Int))) false (Ob.cells true)) ++ vNs (Row.mk (List.take 8 (List.drop 0 (gC enR g))) true (Ob.cells true)) (3 : Int))) false (Ob.cells true)) ++ vNs
  (Row.mk (List.take 8 (List.drop 0 (gC enR g))) true (Ob.cells true)) (4 : Int))) false (Ob.cells true)) ++ vNs (Row.mk (List.take 8 (List.drop 0 (gC enR g))) true
  (Ob.cells true)) (5 : Int)))) /\ ((Plain (iCells IntKind.i64 g2.7)) /\ ((g2.12 = (5 : Int)) /\ ((g2.13 = vCode (Row.mk (List.take 8 (List.drop 0 (gC enR g))) true
  (Ob.cells true)) (5 : Int)) /\ ((g2.14 = vPos (Row.mk (List.take 8 (List.drop 0 (gC enR g))) true (Ob.cells true)) (5 : Int)) /\ ((g2.15 = true) /\ ((g2.9 = (0 : Int)) /\
  ((g2.10 = (0 : Int)) /\ ((g2.11 = (0 : Int)) /\ (∀ (y2 : Unit), ((True) → (∃ y3 : Unit, ((True) /\ ((true = true) /\ ((Eq (α := List Value) (gC enR rr) (gC enR g2.1)) /\
  ((Plain (gC enR rr)) /\ True)))))))))))))))))))))))))))))))))))))))))) (br (vRt (Row.mk (List.take 8 (List.drop 0 (gC enR g))) true (Ob.cells true)) (4 : Int)) ((noGo
  (PanicEntry.mk (Value.iface 10 (Value.string dS)) true false :: reps 10 dS (Int.toNat (vDep (Row.mk (List.take 8 (List.drop 0 (gC enR g))) true (Ob.cells true)) (4 :
  Int)))) = true) /\ (∃ g2 : GH, ((PH g2) /\ ((0 = 0) /\ ((List.length g2.2 = List.length y.1) /\ ((0 = 0) /\ ((g2.3 = y.2) /\ ((0 = 0) /\ ((0 = 0) /\ ((0 = 0) /\ ((0 = 0)
  /\ ((0 = 0) /\ ((g2.8 = true) /\ ((Eq (α := List Value) (gC enR g2.1) (gC enR g)) /\ ((Plain (gC enR g2.1)) /\ ((0 = 0) /\ ((List.length g2.7 = 0 + vLn (Row.mk (List.take
  8 (List.drop 0 (gC enR g))) true (Ob.cells true)) (0 : Int) + vLn (Row.mk (List.take 8 (List.drop 0 (gC enR g))) true (Ob.cells true)) (1 : Int) + vLn (Row.mk (List.take 8
  (List.drop 0 (gC enR g))) true (Ob.cells true)) (2 : Int) + vLn (Row.mk (List.take 8 (List.drop 0 (gC enR g))) true (Ob.cells true)) (3 : Int) + vLn (Row.mk (List.take 8
  (List.drop 0 (gC enR g))) true (Ob.cells true)) (4 : Int)) /\ ((g2.4 = y.3) /\ ((g2.5 = y.4) /\ ((g2.6 = y.5) /\ ((Eq (α := List Value) (iCells IntKind.i64 g2.2) (iCells
  IntKind.i64 y.1)) /\ ((Plain (iCells IntKind.i64 g2.2)) /\ ((Eq (α := List Value) (iCells IntKind.i64 g2.7) (iCells IntKind.i64 (dI (Row.mk (iCells IntKind.i64 (dI (Row.mk
  (iCells IntKind.i64 (dI (Row.mk (iCells IntKind.i64 (dI (Row.mk (iCells IntKind.i64 ([] ++ vNs (Row.mk (List.take 8 (List.drop 0 (gC enR g))) true (Ob.cells true)) (0 :
  Int))) false (Ob.cells true)) ++ vNs (Row.mk (List.take 8 (List.drop 0 (gC enR g))) true (Ob.cells true)) (1 : Int))) false (Ob.cells true)) ++ vNs (Row.mk (List.take 8
  (List.drop 0 (gC enR g))) true (Ob.cells true)) (2 : Int))) false (Ob.cells true)) ++ vNs (Row.mk (List.take 8 (List.drop 0 (gC enR g))) true (Ob.cells true)) (3 : Int)))
  false (Ob.cells true)) ++ vNs (Row.mk (List.take 8 (List.drop 0 (gC enR g))) true (Ob.cells true)) (4 : Int)))) /\ ((Plain (iCells IntKind.i64 g2.7)) /\ ((g2.12 = (-2 :
  Int)) /\ ((g2.13 = (0 : Int)) /\ ((g2.14 = (0 : Int)) /\ ((g2.15 = false) /\ ((g2.9 = (2 : Int)) /\ ((g2.10 = (0 : Int)) /\ ((g2.11 = (0 : Int)) /\ (∀ (y2 : Unit), ((True)
  → (∃ y3 : Unit, ((True) /\ ((true = true) /\ ((Eq (α := List Value) (gC enR rr) (gC enR g2.1)) /\ ((Plain (gC enR rr)) /\ True)))))))))))))))))))))))))))))))))))))) ((true
  = true) /\ ((Value.agg (Array.mk [Value.int IntKind.i64 (vCode (Row.mk (List.take 8 (List.drop 0 (gC enR g))) true (Ob.cells true)) (4 : Int)), Value.int IntKind.i64 (vPos
  (Row.mk (List.take 8 (List.drop 0 (gC enR g))) true (Ob.cells true)) (4 : Int))]) = Value.agg (Array.mk [Value.int IntKind.i64 (vCode (Row.mk (List.take 8 (List.drop 0 (gC
  enR g))) true (Ob.cells true)) (4 : Int)), Value.int IntKind.i64 (vPos (Row.mk (List.take 8 (List.drop 0 (gC enR g))) true (Ob.cells true)) (4 : Int))])) /\ (∃ g2 : GH,
  ((PH g2) /\ ((0 = 0) /\ ((List.length g2.2 = List.length y.1) /\ ((0 = 0) /\ ((g2.3 = y.2) /\ ((0 = 0) /\ ((0 = 0) /\ ((0 = 0) /\ ((0 = 0) /\ ((0 = 0) /\ ((g2.8 = true) /\
  ((Eq (α := List Value) (gC enR g2.1) (gC enR g)) /\ ((Plain (gC enR g2.1)) /\ ((0 = 0) /\ ((List.length g2.7 = 0 + vLn (Row.mk (List.take 8 (List.drop 0 (gC enR g))) true
  (Ob.cells true)) (0 : Int) + vLn (Row.mk (List.take 8 (List.drop 0 (gC enR g))) true (Ob.cells true)) (1 : Int) + vLn (Row.mk (List.take 8 (List.drop 0 (gC enR g))) true
  (Ob.cells true)) (2 : Int) + vLn (Row.mk (List.take 8 (List.drop 0 (gC enR g))) true (Ob.cells true)) (3 : Int) + vLn (Row.mk (List.take 8 (List.drop 0 (gC enR g))) true
  (Ob.cells true)) (4 : Int)) /\ ((g2.4 = y.3) /\ ((g2.5 = y.4) /\ ((g2.6 = y.5) /\ ((Eq (α := List Value) (iCells IntKind.i64 g2.2) (iCells IntKind.i64 y.1)) /\ ((Plain
  (iCells IntKind.i64 g2.2)) /\ ((Eq (α := List Value) (iCells IntKind.i64 g2.7) (iCells IntKind.i64 (dI (Row.mk (iCells IntKind.i64 (dI (Row.mk (iCells IntKind.i64 (dI
  (Row.mk (iCells IntKind.i64 (dI (Row.mk (iCells IntKind.i64 ([] ++ vNs (Row.mk (List.take 8 (List.drop 0 (gC enR g))) true (Ob.cells true)) (0 : Int))) false (Ob.cells
  true)) ++ vNs (Row.mk (List.take 8 (List.drop 0 (gC enR g))) true (Ob.cells true)) (1 : Int))) false (Ob.cells true)) ++ vNs (Row.mk (List.take 8 (List.drop 0 (gC enR g)))
  true (Ob.cells true)) (2 : Int))) false (Ob.cells true)) ++ vNs (Row.mk (List.take 8 (List.drop 0 (gC enR g))) true (Ob.cells true)) (3 : Int))) false (Ob.cells true)) ++
  vNs (Row.mk (List.take 8 (List.drop 0 (gC enR g))) true (Ob.cells true)) (4 : Int)))) /\ ((Plain (iCells IntKind.i64 g2.7)) /\ ((g2.12 = (4 : Int)) /\ ((g2.13 = vCode
  (Row.mk (List.take 8 (List.drop 0 (gC enR g))) true (Ob.cells true)) (4 : Int)) /\ ((g2.14 = vPos (Row.mk (List.take 8 (List.drop 0 (gC enR g))) true (Ob.cells true)) (4 :
  Int)) /\ ((g2.15 = true) /\ ((g2.9 = (0 : Int)) /\ ((g2.10 = (0 : Int)) /\ ((g2.11 = (0 : Int)) /\ (∀ (y2 : Unit), ((True) → (∃ y3 : Unit, ((True) /\ ((true = true) /\
  ((Eq (α := List Value) (gC enR rr) (gC enR g2.1)) /\ ((Plain (gC enR rr)) /\ True)))))))))))))))))))))))))))))))))))))))))) (br (vRt (Row.mk (List.take 8 (List.drop 0 (gC
  enR g))) true (Ob.cells true)) (3 : Int)) ((noGo (PanicEntry.mk (Value.iface 10 (Value.string dS)) true false :: reps 10 dS (Int.toNat (vDep (Row.mk (List.take 8
  (List.drop 0 (gC enR g))) true (Ob.cells true)) (3 : Int)))) = true) /\ (∃ g2 : GH, ((PH g2) /\ ((0 = 0) /\ ((List.length g2.2 = List.length y.1) /\ ((0 = 0) /\ ((g2.3 =
  y.2) /\ ((0 = 0) /\ ((0 = 0) /\ ((0 = 0) /\ ((0 = 0) /\ ((0 = 0) /\ ((g2.8 = true) /\ ((Eq (α := List Value) (gC enR g2.1) (gC enR g)) /\ ((Plain (gC enR g2.1)) /\ ((0 =
  0) /\ ((List.length g2.7 = 0 + vLn (Row.mk (List.take 8 (List.drop 0 (gC enR g))) true (Ob.cells true)) (0 : Int) + vLn (Row.mk (List.take 8 (List.drop 0 (gC enR g))) true
  (Ob.cells true)) (1 : Int) + vLn (Row.mk (List.take 8 (List.drop 0 (gC enR g))) true (Ob.cells true)) (2 : Int) + vLn (Row.mk (List.take 8 (List.drop 0 (gC enR g))) true
  (Ob.cells true)) (3 : Int)) /\ ((g2.4 = y.3) /\ ((g2.5 = y.4) /\ ((g2.6 = y.5) /\ ((Eq (α := List Value) (iCells IntKind.i64 g2.2) (iCells IntKind.i64 y.1)) /\ ((Plain
  (iCells IntKind.i64 g2.2)) /\ ((Eq (α := List Value) (iCells IntKind.i64 g2.7) (iCells IntKind.i64 (dI (Row.mk (iCells IntKind.i64 (dI (Row.mk (iCells IntKind.i64 (dI
  (Row.mk (iCells IntKind.i64 ([] ++ vNs (Row.mk (List.take 8 (List.drop 0 (gC enR g))) true (Ob.cells true)) (0 : Int))) false (Ob.cells true)) ++ vNs (Row.mk (List.take 8
  (List.drop 0 (gC enR g))) true (Ob.cells true)) (1 : Int))) false (Ob.cells true)) ++ vNs (Row.mk (List.take 8 (List.drop 0 (gC enR g))) true (Ob.cells true)) (2 : Int)))
  false (Ob.cells true)) ++ vNs (Row.mk (List.take 8 (List.drop 0 (gC enR g))) true (Ob.cells true)) (3 : Int)))) /\ ((Plain (iCells IntKind.i64 g2.7)) /\ ((g2.12 = (-2 :
  Int)) /\ ((g2.13 = (0 : Int)) /\ ((g2.14 = (0 : Int)) /\ ((g2.15 = false) /\ ((g2.9 = (2 : Int)) /\ ((g2.10 = (0 : Int)) /\ ((g2.11 = (0 : Int)) /\ (∀ (y2 : Unit), ((True)
  → (∃ y3 : Unit, ((True) /\ ((true = true) /\ ((Eq (α := List Value) (gC enR rr) (gC enR g2.1)) /\ ((Plain (gC enR rr)) /\ True)))))))))))))))))))))))))))))))))))))) ((true
  = true) /\ ((Value.agg (Array.mk [Value.int IntKind.i64 (vCode (Row.mk (List.take 8 (List.drop 0 (gC enR g))) true (Ob.cells true)) (3 : Int)), Value.int IntKind.i64 (vPos
  (Row.mk (List.take 8 (List.drop 0 (gC enR g))) true (Ob.cells true)) (3 : Int))]) = Value.agg (Array.mk [Value.int IntKind.i64 (vCode (Row.mk (List.take 8 (List.drop 0 (gC
  enR g))) true (Ob.cells true)) (3 : Int)), Value.int IntKind.i64 (vPos (Row.mk (List.take 8 (List.drop 0 (gC enR g))) true (Ob.cells true)) (3 : Int))])) /\ (∃ g2 : GH,
  ((PH g2) /\ ((0 = 0) /\ ((List.length g2.2 = List.length y.1) /\ ((0 = 0) /\ ((g2.3 = y.2) /\ ((0 = 0) /\ ((0 = 0) /\ ((0 = 0) /\ ((0 = 0) /\ ((0 = 0) /\ ((g2.8 = true) /\
  ((Eq (α := List Value) (gC enR g2.1) (gC enR g)) /\ ((Plain (gC enR g2.1)) /\ ((0 = 0) /\ ((List.length g2.7 = 0 + vLn (Row.mk (List.take 8 (List.drop 0 (gC enR g))) true
  (Ob.cells true)) (0 : Int) + vLn (Row.mk (List.take 8 (List.drop 0 (gC enR g))) true (Ob.cells true)) (1 : Int) + vLn (Row.mk (List.take 8 (List.drop 0 (gC enR g))) true
  (Ob.cells true)) (2 : Int) + vLn (Row.mk (List.take 8 (List.drop 0 (gC enR g))) true (Ob.cells true)) (3 : Int)) /\ ((g2.4 = y.3) /\ ((g2.5 = y.4) /\ ((g2.6 = y.5) /\ ((Eq
  (α := List Value) (iCells IntKind.i64 g2.2) (iCells IntKind.i64 y.1)) /\ ((Plain (iCells IntKind.i64 g2.2)) /\ ((Eq (α := List Value) (iCells IntKind.i64 g2.7) (iCells
  IntKind.i64 (dI (Row.mk (iCells IntKind.i64 (dI (Row.mk (iCells IntKind.i64 (dI (Row.mk (iCells IntKind.i64 ([] ++ vNs (Row.mk (List.take 8 (List.drop 0 (gC enR g))) true
  (Ob.cells true)) (0 : Int))) false (Ob.cells true)) ++ vNs (Row.mk (List.take 8 (List.drop 0 (gC enR g))) true (Ob.cells true)) (1 : Int))) false (Ob.cells true)) ++ vNs
  (Row.mk (List.take 8 (List.drop 0 (gC enR g))) true (Ob.cells true)) (2 : Int))) false (Ob.cells true)) ++ vNs (Row.mk (List.take 8 (List.drop 0 (gC enR g))) true
  (Ob.cells true)) (3 : Int)))) /\ ((Plain (iCells IntKind.i64 g2.7)) /\ ((g2.12 = (3 : Int)) /\ ((g2.13 = vCode (Row.mk (List.take 8 (List.drop 0 (gC enR g))) true
  (Ob.cells true)) (3 : Int)) /\ ((g2.14 = vPos (Row.mk (List.take 8 (List.drop 0 (gC enR g))) true (Ob.cells true)) (3 : Int)) /\ ((g2.15 = true) /\ ((g2.9 = (0 : Int)) /\
  ((g2.10 = (0 : Int)) /\ ((g2.11 = (0 : Int)) /\ (∀ (y2 : Unit), ((True) → (∃ y3 : Unit, ((True) /\ ((true = true) /\ ((Eq (α := List Value) (gC enR rr) (gC enR g2.1)) /\
  ((Plain (gC enR rr)) /\ True)))))))))))))))))))))))))))))))))))))))))) (br (vRt (Row.mk (List.take 8 (List.drop 0 (gC enR g))) true (Ob.cells true)) (2 : Int)) ((noGo
  (PanicEntry.mk (Value.iface 10 (Value.string dS)) true false :: reps 10 dS (Int.toNat (vDep (Row.mk (List.take 8 (List.drop 0 (gC enR g))) true (Ob.cells true)) (2 :
  Int)))) = true) /\ (∃ g2 : GH, ((PH g2) /\ ((0 = 0) /\ ((List.length g2.2 = List.length y.1) /\ ((0 = 0) /\ ((g2.3 = y.2) /\ ((0 = 0) /\ ((0 = 0) /\ ((0 = 0) /\ ((0 = 0)
  /\ ((0 = 0) /\ ((g2.8 = true) /\ ((Eq (α := List Value) (gC enR g2.1) (gC enR g)) /\ ((Plain (gC enR g2.1)) /\ ((0 = 0) /\ ((List.length g2.7 = 0 + vLn (Row.mk (List.take
  8 (List.drop 0 (gC enR g))) true (Ob.cells true)) (0 : Int) + vLn (Row.mk (List.take 8 (List.drop 0 (gC enR g))) true (Ob.cells true)) (1 : Int) + vLn (Row.mk (List.take 8
  (List.drop 0 (gC enR g))) true (Ob.cells true)) (2 : Int)) /\ ((g2.4 = y.3) /\ ((g2.5 = y.4) /\ ((g2.6 = y.5) /\ ((Eq (α := List Value) (iCells IntKind.i64 g2.2) (iCells
  IntKind.i64 y.1)) /\ ((Plain (iCells IntKind.i64 g2.2)) /\ ((Eq (α := List Value) (iCells IntKind.i64 g2.7) (iCells IntKind.i64 (dI (Row.mk (iCells IntKind.i64 (dI (Row.mk
  (iCells IntKind.i64 ([] ++ vNs (Row.mk (List.take 8 (List.drop 0 (gC enR g))) true (Ob.cells true)) (0 : Int))) false (Ob.cells true)) ++ vNs (Row.mk (List.take 8
  (List.drop 0 (gC enR g))) true (Ob.cells true)) (1 : Int))) false (Ob.cells true)) ++ vNs (Row.mk (List.take 8 (List.drop 0 (gC enR g))) true (Ob.cells true)) (2 : Int))))
  /\ ((Plain (iCells IntKind.i64 g2.7)) /\ ((g2.12 = (-2 : Int)) /\ ((g2.13 = (0 : Int)) /\ ((g2.14 = (0 : Int)) /\ ((g2.15 = false) /\ ((g2.9 = (2 : Int)) /\ ((g2.10 = (0 :
  Int)) /\ ((g2.11 = (0 : Int)) /\ (∀ (y2 : Unit), ((True) → (∃ y3 : Unit, ((True) /\ ((true = true) /\ ((Eq (α := List Value) (gC enR rr) (gC enR g2.1)) /\ ((Plain (gC enR
  rr)) /\ True)))))))))))))))))))))))))))))))))))))) ((true = true) /\ ((Value.agg (Array.mk [Value.int IntKind.i64 (vCode (Row.mk (List.take 8 (List.drop 0 (gC enR g)))
  true (Ob.cells true)) (2 : Int)), Value.int IntKind.i64 (vPos (Row.mk (List.take 8 (List.drop 0 (gC enR g))) true (Ob.cells true)) (2 : Int))]) = Value.agg (Array.mk
  [Value.int IntKind.i64 (vCode (Row.mk (List.take 8 (List.drop 0 (gC enR g))) true (Ob.cells true)) (2 : Int)), Value.int IntKind.i64 (vPos (Row.mk (List.take 8 (List.drop
  0 (gC enR g))) true (Ob.cells true)) (2 : Int))])) /\ (∃ g2 : GH, ((PH g2) /\ ((0 = 0) /\ ((List.length g2.2 = List.length y.1) /\ ((0 = 0) /\ ((g2.3 = y.2) /\ ((0 = 0) /\
  ((0 = 0) /\ ((0 = 0) /\ ((0 = 0) /\ ((0 = 0) /\ ((g2.8 = true) /\ ((Eq (α := List Value) (gC enR g2.1) (gC enR g)) /\ ((Plain (gC enR g2.1)) /\ ((0 = 0) /\ ((List.length
  g2.7 = 0 + vLn (Row.mk (List.take 8 (List.drop 0 (gC enR g))) true (Ob.cells true)) (0 : Int) + vLn (Row.mk (List.take 8 (List.drop 0 (gC enR g))) true (Ob.cells true)) (1
  : Int) + vLn (Row.mk (List.take 8 (List.drop 0 (gC enR g))) true (Ob.cells true)) (2 : Int)) /\ ((g2.4 = y.3) /\ ((g2.5 = y.4) /\ ((g2.6 = y.5) /\ ((Eq (α := List Value)
  (iCells IntKind.i64 g2.2) (iCells IntKind.i64 y.1)) /\ ((Plain (iCells IntKind.i64 g2.2)) /\ ((Eq (α := List Value) (iCells IntKind.i64 g2.7) (iCells IntKind.i64 (dI
  (Row.mk (iCells IntKind.i64 (dI (Row.mk (iCells IntKind.i64 ([] ++ vNs (Row.mk (List.take 8 (List.drop 0 (gC enR g))) true (Ob.cells true)) (0 : Int))) false (Ob.cells
  true)) ++ vNs (Row.mk (List.take 8 (List.drop 0 (gC enR g))) true (Ob.cells true)) (1 : Int))) false (Ob.cells true)) ++ vNs (Row.mk (List.take 8 (List.drop 0 (gC enR g)))
  true (Ob.cells true)) (2 : Int)))) /\ ((Plain (iCells IntKind.i64 g2.7)) /\ ((g2.12 = (2 : Int)) /\ ((g2.13 = vCode (Row.mk (List.take 8 (List.drop 0 (gC enR g))) true
  (Ob.cells true)) (2 : Int)) /\ ((g2.14 = vPos (Row.mk (List.take 8 (List.drop 0 (gC enR g))) true (Ob.cells true)) (2 : Int)) /\ ((g2.15 = true) /\ ((g2.9 = (0 : Int)) /\
  ((g2.10 = (0 : Int)) /\ ((g2.11 = (0 : Int)) /\ (∀ (y2 : Unit), ((True) → (∃ y3 : Unit, ((True) /\ ((true = true) /\ ((Eq (α := List Value) (gC enR rr) (gC enR g2.1)) /\
  ((Plain (gC enR rr)) /\ True)))))))))))))))))))))))))))))))))))))))))) (br (vRt (Row.mk (List.take 8 (List.drop 0 (gC enR g))) true (Ob.cells true)) (1 : Int)) ((noGo
  (PanicEntry.mk (Value.iface 10 (Value.string dS)) true false :: reps 10 dS (Int.toNat (vDep (Row.mk (List.take 8 (List.drop 0 (gC enR g))) true (Ob.cells true)) (1 :
  Int)))) = true) /\ (∃ g2 : GH, ((PH g2) /\ ((0 = 0) /\ ((List.length g2.2 = List.length y.1) /\ ((0 = 0) /\ ((g2.3 = y.2) /\ ((0 = 0) /\ ((0 = 0) /\ ((0 = 0) /\ ((0 = 0)
  /\ ((0 = 0) /\ ((g2.8 = true) /\ ((Eq (α := List Value) (gC enR g2.1) (gC enR g)) /\ ((Plain (gC enR g2.1)) /\ ((0 = 0) /\ ((List.length g2.7 = 0 + vLn (Row.mk (List.take
  8 (List.drop 0 (gC enR g))) true (Ob.cells true)) (0 : Int) + vLn (Row.mk (List.take 8 (List.drop 0 (gC enR g))) true (Ob.cells true)) (1 : Int)) /\ ((g2.4 = y.3) /\
  ((g2.5 = y.4) /\ ((g2.6 = y.5) /\ ((Eq (α := List Value) (iCells IntKind.i64 g2.2) (iCells IntKind.i64 y.1)) /\ ((Plain (iCells IntKind.i64 g2.2)) /\ ((Eq (α := List
  Value) (iCells IntKind.i64 g2.7) (iCells IntKind.i64 (dI (Row.mk (iCells IntKind.i64 ([] ++ vNs (Row.mk (List.take 8 (List.drop 0 (gC enR g))) true (Ob.cells true)) (0 :
  Int))) false (Ob.cells true)) ++ vNs (Row.mk (List.take 8 (List.drop 0 (gC enR g))) true (Ob.cells true)) (1 : Int)))) /\ ((Plain (iCells IntKind.i64 g2.7)) /\ ((g2.12 =
  (-2 : Int)) /\ ((g2.13 = (0 : Int)) /\ ((g2.14 = (0 : Int)) /\ ((g2.15 = false) /\ ((g2.9 = (2 : Int)) /\ ((g2.10 = (0 : Int)) /\ ((g2.11 = (0 : Int)) /\ (∀ (y2 : Unit),
  ((True) → (∃ y3 : Unit, ((True) /\ ((true = true) /\ ((Eq (α := List Value) (gC enR rr) (gC enR g2.1)) /\ ((Plain (gC enR rr)) /\
  True)))))))))))))))))))))))))))))))))))))) ((true = true) /\ ((Value.agg (Array.mk [Value.int IntKind.i64 (vCode (Row.mk (List.take 8 (List.drop 0 (gC enR g))) true
  (Ob.cells true)) (1 : Int)), Value.int IntKind.i64 (vPos (Row.mk (List.take 8 (List.drop 0 (gC enR g))) true (Ob.cells true)) (1 : Int))]) = Value.agg (Array.mk [Value.int
  IntKind.i64 (vCode (Row.mk (List.take 8 (List.drop 0 (gC enR g))) true (Ob.cells true)) (1 : Int)), Value.int IntKind.i64 (vPos (Row.mk (List.take 8 (List.drop 0 (gC enR
  g))) true (Ob.cells true)) (1 : Int))])) /\ (∃ g2 : GH, ((PH g2) /\ ((0 = 0) /\ ((List.length g2.2 = List.length y.1) /\ ((0 = 0) /\ ((g2.3 = y.2) /\ ((0 = 0) /\ ((0 = 0)
  /\ ((0 = 0) /\ ((0 = 0) /\ ((0 = 0) /\ ((g2.8 = true) /\ ((Eq (α := List Value) (gC enR g2.1) (gC enR g)) /\ ((Plain (gC enR g2.1)) /\ ((0 = 0) /\ ((List.length g2.7 = 0 +
  vLn (Row.mk (List.take 8 (List.drop 0 (gC enR g))) true (Ob.cells true)) (0 : Int) + vLn (Row.mk (List.take 8 (List.drop 0 (gC enR g))) true (Ob.cells true)) (1 : Int)) /\
  ((g2.4 = y.3) /\ ((g2.5 = y.4) /\ ((g2.6 = y.5) /\ ((Eq (α := List Value) (iCells IntKind.i64 g2.2) (iCells IntKind.i64 y.1)) /\ ((Plain (iCells IntKind.i64 g2.2)) /\ ((Eq
  (α := List Value) (iCells IntKind.i64 g2.7) (iCells IntKind.i64 (dI (Row.mk (iCells IntKind.i64 ([] ++ vNs (Row.mk (List.take 8 (List.drop 0 (gC enR g))) true (Ob.cells
  true)) (0 : Int))) false (Ob.cells true)) ++ vNs (Row.mk (List.take 8 (List.drop 0 (gC enR g))) true (Ob.cells true)) (1 : Int)))) /\ ((Plain (iCells IntKind.i64 g2.7)) /\
  ((g2.12 = (1 : Int)) /\ ((g2.13 = vCode (Row.mk (List.take 8 (List.drop 0 (gC enR g))) true (Ob.cells true)) (1 : Int)) /\ ((g2.14 = vPos (Row.mk (List.take 8 (List.drop 0
  (gC enR g))) true (Ob.cells true)) (1 : Int)) /\ ((g2.15 = true) /\ ((g2.9 = (0 : Int)) /\ ((g2.10 = (0 : Int)) /\ ((g2.11 = (0 : Int)) /\ (∀ (y2 : Unit), ((True) → (∃ y3
  : Unit, ((True) /\ ((true = true) /\ ((Eq (α := List Value) (gC enR rr) (gC enR g2.1)) /\ ((Plain (gC enR rr)) /\ True)))))))))))))))))))))))))))))))))))))))))) (br (vRt
  (Row.mk (List.take 8 (List.drop 0 (gC enR g))) true (Ob.cells true)) (0 : Int)) ((noGo (PanicEntry.mk (Value.iface 10 (Value.string dS)) true false :: reps 10 dS
  (Int.toNat (vDep (Row.mk (List.take 8 (List.drop 0 (gC enR g))) true (Ob.cells true)) (0 : Int)))) = true) /\ (∃ g2 : GH, ((PH g2) /\ ((0 = 0) /\ ((List.length g2.2 =
  List.length y.1) /\ ((0 = 0) /\ ((g2.3 = y.2) /\ ((0 = 0) /\ ((0 = 0) /\ ((0 = 0) /\ ((0 = 0) /\ ((0 = 0) /\ ((g2.8 = true) /\ ((Eq (α := List Value) (gC enR g2.1) (gC enR
  g)) /\ ((Plain (gC enR g2.1)) /\ ((0 = 0) /\ ((List.length g2.7 = 0 + vLn (Row.mk (List.take 8 (List.drop 0 (gC enR g))) true (Ob.cells true)) (0 : Int)) /\ ((g2.4 = y.3)
  /\ ((g2.5 = y.4) /\ ((g2.6 = y.5) /\ ((Eq (α := List Value) (iCells IntKind.i64 g2.2) (iCells IntKind.i64 y.1)) /\ ((Plain (iCells IntKind.i64 g2.2)) /\ ((Eq (α := List
  Value) (iCells IntKind.i64 g2.7) (iCells IntKind.i64 ([] ++ vNs (Row.mk (List.take 8 (List.drop 0 (gC enR g))) true (Ob.cells true)) (0 : Int)))) /\ ((Plain (iCells
  IntKind.i64 g2.7)) /\ ((g2.12 = (-2 : Int)) /\ ((g2.13 = (0 : Int)) /\ ((g2.14 = (0 : Int)) /\ ((g2.15 = false) /\ ((g2.9 = (2 : Int)) /\ ((g2.10 = (0 : Int)) /\ ((g2.11 =
  (0 : Int)) /\ (∀ (y2 : Unit), ((True) → (∃ y3 : Unit, ((True) /\ ((true = true) /\ ((Eq (α := List Value) (gC enR rr) (gC enR g2.1)) /\ ((Plain (gC enR rr)) /\
  True)))))))))))))))))))))))))))))))))))))) ((true = true) /\ ((Value.agg (Array.mk [Value.int IntKind.i64 (vCode (Row.mk (List.take 8 (List.drop 0 (gC enR g))) true
  (Ob.cells true)) (0 : Int)), Value.int IntKind.i64 (vPos (Row.mk (List.take 8 (List.drop 0 (gC enR g))) true (Ob.cells true)) (0 : Int))]) = Value.agg (Array.mk [Value.int
  IntKind.i64 (vCode (Row.mk (List.take 8 (List.drop 0 (gC enR g))) true (Ob.cells true)) (0 : Int)), Value.int IntKind.i64 (vPos (Row.mk (List.take 8 (List.drop 0 (gC enR
  g))) true (Ob.cells true)) (0 : Int))])) /\ (∃ g2 : GH, ((PH g2) /\ ((0 = 0) /\ ((List.length g2.2 = List.length y.1) /\ ((0 = 0) /\ ((g2.3 = y.2) /\ ((0 = 0) /\ ((0 = 0)
  /\ ((0 = 0) /\ ((0 = 0) /\ ((0 = 0) /\ ((g2.8 = true) /\ ((Eq (α := List Value) (gC enR g2.1) (gC enR g)) /\ ((Plain (gC enR g2.1)) /\ ((0 = 0) /\ ((List.length g2.7 = 0 +
  vLn (Row.mk (List.take 8 (List.drop 0 (gC enR g))) true (Ob.cells true)) (0 : Int)) /\ ((g2.4 = y.3) /\ ((g2.5 = y.4) /\ ((g2.6 = y.5) /\ ((Eq (α := List Value) (iCells
  IntKind.i64 g2.2) (iCells IntKind.i64 y.1)) /\ ((Plain (iCells IntKind.i64 g2.2)) /\ ((Eq (α := List Value) (iCells IntKind.i64 g2.7) (iCells IntKind.i64 ([] ++ vNs
  (Row.mk (List.take 8 (List.drop 0 (gC enR g))) true (Ob.cells true)) (0 : Int)))) /\ ((Plain (iCells IntKind.i64 g2.7)) /\ ((g2.12 = (0 : Int)) /\ ((g2.13 = vCode (Row.mk
  (List.take 8 (List.drop 0 (gC enR g))) true (Ob.cells true)) (0 : Int)) /\ ((g2.14 = vPos (Row.mk (List.take 8 (List.drop 0 (gC enR g))) true (Ob.cells true)) (0 : Int))
  /\ ((g2.15 = true) /\ ((g2.9 = (0 : Int)) /\ ((g2.10 = (0 : Int)) /\ ((g2.11 = (0 : Int)) /\ (∀ (y2 : Unit), ((True) → (∃ y3 : Unit, ((True) /\ ((true = true) /\ ((Eq (α
  := List Value) (gC enR rr) (gC enR g2.1)) /\ ((Plain (gC enR rr)) /\ True)))))))))))))))))))))))))))))))))))))))))))))))))))))))))))) := by kernel_rfl
set_option maxHeartbeats 4000000 in
theorem G7 (rr : List (List Ac)) (hn : 7 ≤ rr.length) (ho : ∀ l ∈ rr, OkR l) : mlG rr 7 (Sy.endsIn 1 130 (wsG rr)) := by
  refine (G7_vc rr).mpr ⟨rr, ⟨(show (7 : Nat) ≤ 8 by decide), hn, ho⟩, rfl, rfl, rfl, rfl, rfl, rfl, rfl, rPl _, rfl, rfl, rfl, rfl, rfl, rfl, fun y hy => ?_⟩
  have hy : y = ftl [sbR rr 0, sbR rr 1, sbR rr 2, sbR rr 3, sbR rr 4, sbR rr 5, sbR rr 6] 0 := hy
  have hl : 7 ≤ (gC enR rr).length := by rw [rLen]; omega
  have ht : (gC enR rr).take 7 = gC enR (rr.take 7) := gC_take (en := enR) (k := 1) (fun _ => rfl) rr 7
  obtain ⟨a0, b0, c0, d0, e0, f0, g0⟩ := z_vj rr 7 0 (by decide) 0 (by decide)
  have n0 := sb_len rr 0
  have z0 := tl_zero _ (sbR rr 0) (Nat.le_refl _)
  have w0 := tl_two _ (sbR rr 0) (Nat.le_refl _)
  obtain ⟨a1, b1, c1, d1, e1, f1, g1⟩ := z_vj rr 7 1 (by decide) 1 (by decide)
  have n1 := sb_len rr 1
  have z1 := tl_zero _ (sbR rr 1) (Nat.le_refl _)
  have w1 := tl_two _ (sbR rr 1) (Nat.le_refl _)
  obtain ⟨a2, b2, c2, d2, e2, f2, g2⟩ := z_vj rr 7 2 (by decide) 2 (by decide)
  have n2 := sb_len rr 2
  have z2 := tl_zero _ (sbR rr 2) (Nat.le_refl _)
  have w2 := tl_two _ (sbR rr 2) (Nat.le_refl _)
  obtain ⟨a3, b3, c3, d3, e3, f3, g3⟩ := z_vj rr 7 3 (by decide) 3 (by decide)
  have n3 := sb_len rr 3
  have z3 := tl_zero _ (sbR rr 3) (Nat.le_refl _)
  have w3 := tl_two _ (sbR rr 3) (Nat.le_refl _)
  obtain ⟨a4, b4, c4, d4, e4, f4, g4⟩ := z_vj rr 7 4 (by decide) 4 (by decide)
  have n4 := sb_len rr 4
  have z4 := tl_zero _ (sbR rr 4) (Nat.le_refl _)
  have w4 := tl_two _ (sbR rr 4) (Nat.le_refl _)
  obtain ⟨a5, b5, c5, d5, e5, f5, g5⟩ := z_vj rr 7 5 (by decide) 5 (by decide)
  have n5 := sb_len rr 5
  have z5 := tl_zero _ (sbR rr 5) (Nat.le_refl _)
  have w5 := tl_two _ (sbR rr 5) (Nat.le_refl _)
  obtain ⟨a6, b6, c6, d6, e6, f6, g6⟩ := z_vj rr 7 6 (by decide) 6 (by decide)
  have n6 := sb_len rr 6
  have z6 := tl_zero _ (sbR rr 6) (Nat.le_refl _)
  have w6 := tl_two _ (sbR rr 6) (Nat.le_refl _)
  have iF := isF_of rr 7 hn ho
  simp only [ht, a0, b0, c0, d0, e0, f0, g0, a1, b1, c1, d1, e1, f1, g1, a2, b2, c2, d2, e2, f2, g2, a3, b3, c3, d3, e3, f3, g3, a4, b4, c4, d4, e4, f4, g4, a5, b5, c5, d5, e5, f5, g5, a6, b6, c6, d6, e6, f6, g6, ofNat_eq, toNat_cast, Nat.zero_add, Nat.add_zero, Nat.mul_one, List.drop_zero, bCells_len, bCells_drop, bCells_take, bCells_app, bCells_one, bCells_plain, List.length_replicate, List.length_append, List.length_take, List.length_drop, List.take_length, and_true, true_and, and_self, decide_true, List.length_nil, List.length_cons, Nat.sub_zero, dB_mk, dB_ro, List.take_zero, rPl, dI_mk, iCells_plain, List.nil_append, noGo_c, noGo_reps]
  have pn : Plain [] := fun v hv => by simp at hv
  refine ⟨⟨⟨hl, pn⟩, iF _ (by decide) (by decide) _ (by decide), isZ_0⟩, ?_⟩
  rcases z0 with ⟨o0, p0, q0⟩ | o0 | o0
  · refine br_b (by rw [o0]; rfl) ?_
    refine ⟨⟨hl, iF _ (by decide) (by decide) _ (by omega), isZ_of _ _ (by simp only [List.length_append])⟩, ?_⟩
    rcases z1 with ⟨o1, p1, q1⟩ | o1 | o1
    · refine br_b (by rw [o1]; rfl) ?_
      refine ⟨⟨hl, iF _ (by decide) (by decide) _ (by omega), isZ_of _ _ (by simp only [List.length_append])⟩, ?_⟩
      rcases z2 with ⟨o2, p2, q2⟩ | o2 | o2
      · refine br_b (by rw [o2]; rfl) ?_
        refine ⟨⟨hl, iF _ (by decide) (by decide) _ (by omega), isZ_of _ _ (by simp only [List.length_append])⟩, ?_⟩
        rcases z3 with ⟨o3, p3, q3⟩ | o3 | o3
        · refine br_b (by rw [o3]; rfl) ?_
          refine ⟨⟨hl, iF _ (by decide) (by decide) _ (by omega), isZ_of _ _ (by simp only [List.length_append])⟩, ?_⟩
          rcases z4 with ⟨o4, p4, q4⟩ | o4 | o4
          · refine br_b (by rw [o4]; rfl) ?_
            refine ⟨⟨hl, iF _ (by decide) (by decide) _ (by omega), isZ_of _ _ (by simp only [List.length_append])⟩, ?_⟩
            rcases z5 with ⟨o5, p5, q5⟩ | o5 | o5
            · refine br_b (by rw [o5]; rfl) ?_
              refine ⟨⟨hl, iF _ (by decide) (by decide) _ (by omega), isZ_of _ _ (by simp only [List.length_append])⟩, ?_⟩
              rcases z6 with ⟨o6, p6, q6⟩ | o6 | o6
              · refine br_b (by rw [o6]; rfl) ?_
                refine leafG rr y _ _ _ _ _ _ _ _ _ ?_ ?_
                · simp only [List.length_append, List.length_nil]
                · simp [ftl, o0, p0, q0, o1, p1, q1, o2, p2, q2, o3, p3, q3, o4, p4, q4, o5, p5, q5, o6, p6, q6] at hy
                  subst hy
                  exact ⟨rfl, by simp, by simp; omega, .inr ⟨by simp, rfl, rfl, by simp, .inl ⟨by simp, rfl, rfl⟩⟩⟩
              · refine br_nb (by rw [o6]; rfl) (br_nb (by rw [o6]; rfl) ?_)
                refine leafG rr y _ _ _ _ _ _ _ _ _ ?_ ?_
                · simp only [List.length_append, List.length_nil]
                · simp [ftl, o0, p0, q0, o1, p1, q1, o2, p2, q2, o3, p3, q3, o4, p4, q4, o5, p5, q5, o6] at hy
                  subst hy
                  exact ⟨rfl, by simp, by simp; omega, .inr ⟨by simp, rfl, by simp, by simp, .inr ⟨by simp, rfl, rfl⟩⟩⟩
              · obtain ⟨p6, q6⟩ := w6 o6
                refine br_nb (by rw [o6]; rfl) (br_b (by rw [o6]; rfl) ?_)
                refine leafG rr y _ _ _ _ _ _ _ _ _ ?_ ?_
                · simp only [List.length_append, List.length_nil]
                · simp [ftl, o0, p0, q0, o1, p1, q1, o2, p2, q2, o3, p3, q3, o4, p4, q4, o5, p5, q5, o6, p6, q6] at hy
                  subst hy
                  exact ⟨rfl, by simp, by simp; omega, .inl ⟨rfl, rfl, rfl, rfl⟩⟩
            · refine br_nb (by rw [o5]; rfl) (br_nb (by rw [o5]; rfl) ?_)
              refine leafG rr y _ _ _ _ _ _ _ _ _ ?_ ?_
              · simp only [List.length_append, List.length_nil]
              · simp [ftl, o0, p0, q0, o1, p1, q1, o2, p2, q2, o3, p3, q3, o4, p4, q4, o5] at hy
                subst hy
                exact ⟨rfl, by simp, by simp; omega, .inr ⟨by simp, rfl, by simp, by simp, .inr ⟨by simp, rfl, rfl⟩⟩⟩
            · obtain ⟨p5, q5⟩ := w5 o5
              refine br_nb (by rw [o5]; rfl) (br_b (by rw [o5]; rfl) ?_)
              refine leafG rr y _ _ _ _ _ _ _ _ _ ?_ ?_
              · simp only [List.length_append, List.length_nil]
              · simp [ftl, o0, p0, q0, o1, p1, q1, o2, p2, q2, o3, p3, q3, o4, p4, q4, o5, p5, q5] at hy
                subst hy
                exact ⟨rfl, by simp, by simp; omega, .inl ⟨rfl, rfl, rfl, rfl⟩⟩
          · refine br_nb (by rw [o4]; rfl) (br_nb (by rw [o4]; rfl) ?_)
            refine leafG rr y _ _ _ _ _ _ _ _ _ ?_ ?_
            · simp only [List.length_append, List.length_nil]
            · simp [ftl, o0, p0, q0, o1, p1, q1, o2, p2, q2, o3, p3, q3, o4] at hy
              subst hy
              exact ⟨rfl, by simp, by simp; omega, .inr ⟨by simp, rfl, by simp, by simp, .inr ⟨by simp, rfl, rfl⟩⟩⟩
          · obtain ⟨p4, q4⟩ := w4 o4
            refine br_nb (by rw [o4]; rfl) (br_b (by rw [o4]; rfl) ?_)
            refine leafG rr y _ _ _ _ _ _ _ _ _ ?_ ?_
            · simp only [List.length_append, List.length_nil]
            · simp [ftl, o0, p0, q0, o1, p1, q1, o2, p2, q2, o3, p3, q3, o4, p4, q4] at hy
              subst hy
              exact ⟨rfl, by simp, by simp; omega, .inl ⟨rfl, rfl, rfl, rfl⟩⟩
        · refine br_nb (by rw [o3]; rfl) (br_nb (by rw [o3]; rfl) ?_)
          refine leafG rr y _ _ _ _ _ _ _ _ _ ?_ ?_
          · simp only [List.length_append, List.length_nil]
          · simp [ftl, o0, p0, q0, o1, p1, q1, o2, p2, q2, o3] at hy
            subst hy
            exact ⟨rfl, by simp, by simp; omega, .inr ⟨by simp, rfl, by simp, by simp, .inr ⟨by simp, rfl, rfl⟩⟩⟩
        · obtain ⟨p3, q3⟩ := w3 o3
          refine br_nb (by rw [o3]; rfl) (br_b (by rw [o3]; rfl) ?_)
          refine leafG rr y _ _ _ _ _ _ _ _ _ ?_ ?_
          · simp only [List.length_append, List.length_nil]
          · simp [ftl, o0, p0, q0, o1, p1, q1, o2, p2, q2, o3, p3, q3] at hy
            subst hy
            exact ⟨rfl, by simp, by simp; omega, .inl ⟨rfl, rfl, rfl, rfl⟩⟩
      · refine br_nb (by rw [o2]; rfl) (br_nb (by rw [o2]; rfl) ?_)
        refine leafG rr y _ _ _ _ _ _ _ _ _ ?_ ?_
        · simp only [List.length_append, List.length_nil]
        · simp [ftl, o0, p0, q0, o1, p1, q1, o2] at hy
          subst hy
          exact ⟨rfl, by simp, by simp; omega, .inr ⟨by simp, rfl, by simp, by simp, .inr ⟨by simp, rfl, rfl⟩⟩⟩
      · obtain ⟨p2, q2⟩ := w2 o2
        refine br_nb (by rw [o2]; rfl) (br_b (by rw [o2]; rfl) ?_)
        refine leafG rr y _ _ _ _ _ _ _ _ _ ?_ ?_
        · simp only [List.length_append, List.length_nil]
        · simp [ftl, o0, p0, q0, o1, p1, q1, o2, p2, q2] at hy
          subst hy
          exact ⟨rfl, by simp, by simp; omega, .inl ⟨rfl, rfl, rfl, rfl⟩⟩
    · refine br_nb (by rw [o1]; rfl) (br_nb (by rw [o1]; rfl) ?_)
      refine leafG rr y _ _ _ _ _ _ _ _ _ ?_ ?_
      · simp only [List.length_append, List.length_nil]
      · simp [ftl, o0, p0, q0, o1] at hy
        subst hy
        exact ⟨rfl, by simp, by simp; omega, .inr ⟨by simp, rfl, by simp, by simp, .inr ⟨by simp, rfl, rfl⟩⟩⟩
    · obtain ⟨p1, q1⟩ := w1 o1
      refine br_nb (by rw [o1]; rfl) (br_b (by rw [o1]; rfl) ?_)
      refine leafG rr y _ _ _ _ _ _ _ _ _ ?_ ?_
      · simp only [List.length_append, List.length_nil]
      · simp [ftl, o0, p0, q0, o1, p1, q1] at hy
        subst hy
        exact ⟨rfl, by simp, by simp; omega, .inl ⟨rfl, rfl, rfl, rfl⟩⟩
  · refine br_nb (by rw [o0]; rfl) (br_nb (by rw [o0]; rfl) ?_)
    refine leafG rr y _ _ _ _ _ _ _ _ _ ?_ ?_
    · simp only [List.length_append, List.length_nil]
    · simp [ftl, o0] at hy
      subst hy
      exact ⟨rfl, by simp, by simp; omega, .inr ⟨by simp, rfl, by simp, by simp, .inr ⟨by simp, rfl, rfl⟩⟩⟩
  · obtain ⟨p0, q0⟩ := w0 o0
    refine br_nb (by rw [o0]; rfl) (br_b (by rw [o0]; rfl) ?_)
    refine leafG rr y _ _ _ _ _ _ _ _ _ ?_ ?_
    · simp only [List.length_append, List.length_nil]
    · simp [ftl, o0, p0, q0] at hy
      subst hy
      exact ⟨rfl, by simp, by simp; omega, .inl ⟨rfl, rfl, rfl, rfl⟩⟩
set_option maxHeartbeats 4000000 in
theorem G8 (rr : List (List Ac)) (hn : 8 ≤ rr.length) (ho : ∀ l ∈ rr, OkR l) : mlG rr 8 (Sy.endsIn 1 130 (wsG rr)) := by
  refine (G8_vc rr).mpr ⟨rr, ⟨(show (8 : Nat) ≤ 8 by decide), hn, ho⟩, rfl, rfl, rfl, rfl, rfl, rfl, rfl, rPl _, rfl, rfl, rfl, rfl, rfl, rfl, fun y hy => ?_⟩
  have hy : y = ftl [sbR rr 0, sbR rr 1, sbR rr 2, sbR rr 3, sbR rr 4, sbR rr 5, sbR rr 6, sbR rr 7] 0 := hy
  have hl : 8 ≤ (gC enR rr).length := by rw [rLen]; omega
  have ht : (gC enR rr).take 8 = gC enR (rr.take 8) := gC_take (en := enR) (k := 1) (fun _ => rfl) rr 8
  obtain ⟨a0, b0, c0, d0, e0, f0, g0⟩ := z_vj rr 8 0 (by decide) 0 (by decide)
  have n0 := sb_len rr 0
  have z0 := tl_zero _ (sbR rr 0) (Nat.le_refl _)
  have w0 := tl_two _ (sbR rr 0) (Nat.le_refl _)
  obtain ⟨a1, b1, c1, d1, e1, f1, g1⟩ := z_vj rr 8 1 (by decide) 1 (by decide)
  have n1 := sb_len rr 1
  have z1 := tl_zero _ (sbR rr 1) (Nat.le_refl _)
  have w1 := tl_two _ (sbR rr 1) (Nat.le_refl _)
  obtain ⟨a2, b2, c2, d2, e2, f2, g2⟩ := z_vj rr 8 2 (by decide) 2 (by decide)
  have n2 := sb_len rr 2
  have z2 := tl_zero _ (sbR rr 2) (Nat.le_refl _)
  have w2 := tl_two _ (sbR rr 2) (Nat.le_refl _)
  obtain ⟨a3, b3, c3, d3, e3, f3, g3⟩ := z_vj rr 8 3 (by decide) 3 (by decide)
  have n3 := sb_len rr 3
  have z3 := tl_zero _ (sbR rr 3) (Nat.le_refl _)
  have w3 := tl_two _ (sbR rr 3) (Nat.le_refl _)
  obtain ⟨a4, b4, c4, d4, e4, f4, g4⟩ := z_vj rr 8 4 (by decide) 4 (by decide)
  have n4 := sb_len rr 4
  have z4 := tl_zero _ (sbR rr 4) (Nat.le_refl _)
  have w4 := tl_two _ (sbR rr 4) (Nat.le_refl _)
  obtain ⟨a5, b5, c5, d5, e5, f5, g5⟩ := z_vj rr 8 5 (by decide) 5 (by decide)
  have n5 := sb_len rr 5
  have z5 := tl_zero _ (sbR rr 5) (Nat.le_refl _)
  have w5 := tl_two _ (sbR rr 5) (Nat.le_refl _)
  obtain ⟨a6, b6, c6, d6, e6, f6, g6⟩ := z_vj rr 8 6 (by decide) 6 (by decide)
  have n6 := sb_len rr 6
  have z6 := tl_zero _ (sbR rr 6) (Nat.le_refl _)
  have w6 := tl_two _ (sbR rr 6) (Nat.le_refl _)
  obtain ⟨a7, b7, c7, d7, e7, f7, g7⟩ := z_vj rr 8 7 (by decide) 7 (by decide)
  have n7 := sb_len rr 7
  have z7 := tl_zero _ (sbR rr 7) (Nat.le_refl _)
  have w7 := tl_two _ (sbR rr 7) (Nat.le_refl _)
  have iF := isF_of rr 8 hn ho
  simp only [ht, a0, b0, c0, d0, e0, f0, g0, a1, b1, c1, d1, e1, f1, g1, a2, b2, c2, d2, e2, f2, g2, a3, b3, c3, d3, e3, f3, g3, a4, b4, c4, d4, e4, f4, g4, a5, b5, c5, d5, e5, f5, g5, a6, b6, c6, d6, e6, f6, g6, a7, b7, c7, d7, e7, f7, g7, ofNat_eq, toNat_cast, Nat.zero_add, Nat.add_zero, Nat.mul_one, List.drop_zero, bCells_len, bCells_drop, bCells_take, bCells_app, bCells_one, bCells_plain, List.length_replicate, List.length_append, List.length_take, List.length_drop, List.take_length, and_true, true_and, and_self, decide_true, List.length_nil, List.length_cons, Nat.sub_zero, dB_mk, dB_ro, List.take_zero, rPl, dI_mk, iCells_plain, List.nil_append, noGo_c, noGo_reps]
  have pn : Plain [] := fun v hv => by simp at hv
  refine ⟨⟨⟨hl, pn⟩, iF _ (by decide) (by decide) _ (by decide), isZ_0⟩, ?_⟩
  rcases z0 with ⟨o0, p0, q0⟩ | o0 | o0
  · refine br_b (by rw [o0]; rfl) ?_
    refine ⟨⟨hl, iF _ (by decide) (by decide) _ (by omega), isZ_of _ _ (by simp only [List.length_append])⟩, ?_⟩
    rcases z1 with ⟨o1, p1, q1⟩ | o1 | o1
    · refine br_b (by rw [o1]; rfl) ?_
      refine ⟨⟨hl, iF _ (by decide) (by decide) _ (by omega), isZ_of _ _ (by simp only [List.length_append])⟩, ?_⟩
      rcases z2 with ⟨o2, p2, q2⟩ | o2 | o2
      · refine br_b (by rw [o2]; rfl) ?_
        refine ⟨⟨hl, iF _ (by decide) (by decide) _ (by omega), isZ_of _ _ (by simp only [List.length_append])⟩, ?_⟩
        rcases z3 with ⟨o3, p3, q3⟩ | o3 | o3
        · refine br_b (by rw [o3]; rfl) ?_
          refine ⟨⟨hl, iF _ (by decide) (by decide) _ (by omega), isZ_of _ _ (by simp only [List.length_append])⟩, ?_⟩
          rcases z4 with ⟨o4, p4, q4⟩ | o4 | o4
          · refine br_b (by rw [o4]; rfl) ?_
            refine ⟨⟨hl, iF _ (by decide) (by decide) _ (by omega), isZ_of _ _ (by simp only [List.length_append])⟩, ?_⟩
            rcases z5 with ⟨o5, p5, q5⟩ | o5 | o5
            · refine br_b (by rw [o5]; rfl) ?_
              refine ⟨⟨hl, iF _ (by decide) (by decide) _ (by omega), isZ_of _ _ (by simp only [List.length_append])⟩, ?_⟩
              rcases z6 with ⟨o6, p6, q6⟩ | o6 | o6
              · refine br_b (by rw [o6]; rfl) ?_
                refine ⟨⟨hl, iF _ (by decide) (by decide) _ (by omega), isZ_of _ _ (by simp only [List.length_append])⟩, ?_⟩
                rcases z7 with ⟨o7, p7, q7⟩ | o7 | o7
                · refine br_b (by rw [o7]; rfl) ?_
                  refine leafG rr y _ _ _ _ _ _ _ _ _ ?_ ?_
                  · simp only [List.length_append, List.length_nil]
                  · simp [ftl, o0, p0, q0, o1, p1, q1, o2, p2, q2, o3, p3, q3, o4, p4, q4, o5, p5, q5, o6, p6, q6, o7, p7, q7] at hy
                    subst hy
                    exact ⟨rfl, by simp, by simp; omega, .inr ⟨by simp, rfl, rfl, by simp, .inl ⟨by simp, rfl, rfl⟩⟩⟩
                · refine br_nb (by rw [o7]; rfl) (br_nb (by rw [o7]; rfl) ?_)
                  refine leafG rr y _ _ _ _ _ _ _ _ _ ?_ ?_
                  · simp only [List.length_append, List.length_nil]
                  · simp [ftl, o0, p0, q0, o1, p1, q1, o2, p2, q2, o3, p3, q3, o4, p4, q4, o5, p5, q5, o6, p6, q6, o7] at hy
                    subst hy
                    exact ⟨rfl, by simp, by simp; omega, .inr ⟨by simp, rfl, by simp, by simp, .inr ⟨by simp, rfl, rfl⟩⟩⟩
                · obtain ⟨p7, q7⟩ := w7 o7
                  refine br_nb (by rw [o7]; rfl) (br_b (by rw [o7]; rfl) ?_)
                  refine leafG rr y _ _ _ _ _ _ _ _ _ ?_ ?_
                  · simp only [List.length_append, List.length_nil]
                  · simp [ftl, o0, p0, q0, o1, p1, q1, o2, p2, q2, o3, p3, q3, o4, p4, q4, o5, p5, q5, o6, p6, q6, o7, p7, q7] at hy
                    subst hy
                    exact ⟨rfl, by simp, by simp; omega, .inl ⟨rfl, rfl, rfl, rfl⟩⟩
              · refine br_nb (by rw [o6]; rfl) (br_nb (by rw [o6]; rfl) ?_)
                refine leafG rr y _ _ _ _ _ _ _ _ _ ?_ ?_
                · simp only [List.length_append, List.length_nil]
                · simp [ftl, o0, p0, q0, o1, p1, q1, o2, p2, q2, o3, p3, q3, o4, p4, q4, o5, p5, q5, o6] at hy
                  subst hy
                  exact ⟨rfl, by simp, by simp; omega, .inr ⟨by simp, rfl, by simp, by simp, .inr ⟨by simp, rfl, rfl⟩⟩⟩
              · obtain ⟨p6, q6⟩ := w6 o6
                refine br_nb (by rw [o6]; rfl) (br_b (by rw [o6]; rfl) ?_)
                refine leafG rr y _ _ _ _ _ _ _ _ _ ?_ ?_
                · simp only [List.length_append, List.length_nil]
                · simp [ftl, o0, p0, q0, o1, p1, q1, o2, p2, q2, o3, p3, q3, o4, p4, q4, o5, p5, q5, o6, p6, q6] at hy
                  subst hy
                  exact ⟨rfl, by simp, by simp; omega, .inl ⟨rfl, rfl, rfl, rfl⟩⟩
            · refine br_nb (by rw [o5]; rfl) (br_nb (by rw [o5]; rfl) ?_)
              refine leafG rr y _ _ _ _ _ _ _ _ _ ?_ ?_
              · simp only [List.length_append, List.length_nil]
              · simp [ftl, o0, p0, q0, o1, p1, q1, o2, p2, q2, o3, p3, q3, o4, p4, q4, o5] at hy
                subst hy
                exact ⟨rfl, by simp, by simp; omega, .inr ⟨by simp, rfl, by simp, by simp, .inr ⟨by simp, rfl, rfl⟩⟩⟩
            · obtain ⟨p5, q5⟩ := w5 o5
              refine br_nb (by rw [o5]; rfl) (br_b (by rw [o5]; rfl) ?_)
              refine leafG rr y _ _ _ _ _ _ _ _ _ ?_ ?_
              · simp only [List.length_append, List.length_nil]
              · simp [ftl, o0, p0, q0, o1, p1, q1, o2, p2, q2, o3, p3, q3, o4, p4, q4, o5, p5, q5] at hy
                subst hy
                exact ⟨rfl, by simp, by simp; omega, .inl ⟨rfl, rfl, rfl, rfl⟩⟩
          · refine br_nb (by rw [o4]; rfl) (br_nb (by rw [o4]; rfl) ?_)
            refine leafG rr y _ _ _ _ _ _ _ _ _ ?_ ?_
            · simp only [List.length_append, List.length_nil]
            · simp [ftl, o0, p0, q0, o1, p1, q1, o2, p2, q2, o3, p3, q3, o4] at hy
              subst hy
              exact ⟨rfl, by simp, by simp; omega, .inr ⟨by simp, rfl, by simp, by simp, .inr ⟨by simp, rfl, rfl⟩⟩⟩
          · obtain ⟨p4, q4⟩ := w4 o4
            refine br_nb (by rw [o4]; rfl) (br_b (by rw [o4]; rfl) ?_)
            refine leafG rr y _ _ _ _ _ _ _ _ _ ?_ ?_
            · simp only [List.length_append, List.length_nil]
            · simp [ftl, o0, p0, q0, o1, p1, q1, o2, p2, q2, o3, p3, q3, o4, p4, q4] at hy
              subst hy
              exact ⟨rfl, by simp, by simp; omega, .inl ⟨rfl, rfl, rfl, rfl⟩⟩
        · refine br_nb (by rw [o3]; rfl) (br_nb (by rw [o3]; rfl) ?_)
          refine leafG rr y _ _ _ _ _ _ _ _ _ ?_ ?_
          · simp only [List.length_append, List.length_nil]
          · simp [ftl, o0, p0, q0, o1, p1, q1, o2, p2, q2, o3] at hy
            subst hy
            exact ⟨rfl, by simp, by simp; omega, .inr ⟨by simp, rfl, by simp, by simp, .inr ⟨by simp, rfl, rfl⟩⟩⟩
        · obtain ⟨p3, q3⟩ := w3 o3
          refine br_nb (by rw [o3]; rfl) (br_b (by rw [o3]; rfl) ?_)
          refine leafG rr y _ _ _ _ _ _ _ _ _ ?_ ?_
          · simp only [List.length_append, List.length_nil]
          · simp [ftl, o0, p0, q0, o1, p1, q1, o2, p2, q2, o3, p3, q3] at hy
            subst hy
            exact ⟨rfl, by simp, by simp; omega, .inl ⟨rfl, rfl, rfl, rfl⟩⟩
      · refine br_nb (by rw [o2]; rfl) (br_nb (by rw [o2]; rfl) ?_)
        refine leafG rr y _ _ _ _ _ _ _ _ _ ?_ ?_
        · simp only [List.length_append, List.length_nil]
        · simp [ftl, o0, p0, q0, o1, p1, q1, o2] at hy
          subst hy
          exact ⟨rfl, by simp, by simp; omega, .inr ⟨by simp, rfl, by simp, by simp, .inr ⟨by simp, rfl, rfl⟩⟩⟩
      · obtain ⟨p2, q2⟩ := w2 o2
        refine br_nb (by rw [o2]; rfl) (br_b (by rw [o2]; rfl) ?_)
        refine leafG rr y _ _ _ _ _ _ _ _ _ ?_ ?_
        · simp only [List.length_append, List.length_nil]
        · simp [ftl, o0, p0, q0, o1, p1, q1, o2, p2, q2] at hy
          subst hy
          exact ⟨rfl, by simp, by simp; omega, .inl ⟨rfl, rfl, rfl, rfl⟩⟩
    · refine br_nb (by rw [o1]; rfl) (br_nb (by rw [o1]; rfl) ?_)
      refine leafG rr y _ _ _ _ _ _ _ _ _ ?_ ?_
      · simp only [List.length_append, List.length_nil]
      · simp [ftl, o0, p0, q0, o1] at hy
        subst hy
        exact ⟨rfl, by simp, by simp; omega, .inr ⟨by simp, rfl, by simp, by simp, .inr ⟨by simp, rfl, rfl⟩⟩⟩
    · obtain ⟨p1, q1⟩ := w1 o1
      refine br_nb (by rw [o1]; rfl) (br_b (by rw [o1]; rfl) ?_)
      refine leafG rr y _ _ _ _ _ _ _ _ _ ?_ ?_
      · simp only [List.length_append, List.length_nil]
      · simp [ftl, o0, p0, q0, o1, p1, q1] at hy
        subst hy
        exact ⟨rfl, by simp, by simp; omega, .inl ⟨rfl, rfl, rfl, rfl⟩⟩
  · refine br_nb (by rw [o0]; rfl) (br_nb (by rw [o0]; rfl) ?_)
    refine leafG rr y _ _ _ _ _ _ _ _ _ ?_ ?_
    · simp only [List.length_append, List.length_nil]
    · simp [ftl, o0] at hy
      subst hy
      exact ⟨rfl, by simp, by simp; omega, .inr ⟨by simp, rfl, by simp, by simp, .inr ⟨by simp, rfl, rfl⟩⟩⟩
  · obtain ⟨p0, q0⟩ := w0 o0
    refine br_nb (by rw [o0]; rfl) (br_b (by rw [o0]; rfl) ?_)
    refine leafG rr y _ _ _ _ _ _ _ _ _ ?_ ?_
    · simp only [List.length_append, List.length_nil]
    · simp [ftl, o0, p0, q0] at hy
      subst hy
      exact ⟨rfl, by simp, by simp; omega, .inl ⟨rfl, rfl, rfl, rfl⟩⟩
end Go.Proofs.Ytekijelmdajhlaa.gp
