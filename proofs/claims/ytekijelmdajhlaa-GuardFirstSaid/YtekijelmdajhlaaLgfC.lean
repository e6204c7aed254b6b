/- GuardFirst: the functions gathered, and called, for each number of them. -/
import Derived.Test.YtekijelmdajhlaaSz9
import Derived.Test.YtekijelmdajhlaaRows
import Derived.Test.YtekijelmdajhlaaLgfD
set_option linter.unusedSimpArgs false
set_option linter.unusedVariables false
namespace Go.Proofs.Ytekijelmdajhlaa.gp
open Go Go.Ev Go.Sy Go.RowKit Go.Proofs.Ytekijelmdajhlaa.gl Go.Proofs.Ytekijelmdajhlaa.tk Go.Proofs.Ytekijelmdajhlaa.ic Go.Proofs.Ytekijelmdajhlaa.gm
noncomputable def mF (n : Nat) := mOf [(5, pF, specF n), (5, pH, specH)]
def pG : List Nat := [1, 1]
def slG : List (Nat × Value) := [(1, .pointer (some ⟨1, 0, none⟩))]
noncomputable def rlG (rr : List (List Ac)) (n : Nat) : List (Nat × Row) := [(0, gRo enR rr), (1, ⟨[.slice (some ⟨0, 0, none⟩) n 1], false, .cells false⟩)]
noncomputable def wsG (rr : List (List Ac)) : List (Gate Unit) := [⟨.ret, fun _ => True, fun _ => [(2, .bool true)], fun _ => [(0, gRo enR rr)], 2⟩]
noncomputable def mlG (rr : List (List Ac)) (n : Nat) (K : KO) : Prop := mev EFl (mF n) 300 5 pG false (codeOf Try.prog 5 pG) ⟨mkOv slG, 130, []⟩ none ⟨mkR (rlG rr n), 2⟩ K
set_option maxHeartbeats 4000000 in
theorem G0_vc (rr : List (List Ac)) : mlG rr 0 (Sy.endsIn 1 130 (wsG rr)) =
  (∃ g : List (List Ac), ((PF (GF.mk g 0)) /\ ((0 = 0) /\ ((0 = 0) /\ ((0 = 0) /\ (((-1 : Int) = (-1 : Int)) /\ ((0 = 0) /\ (((0 : Int) = (0 : Int)) /\ ((Eq (α := List
  Value) (gC enR g) (gC enR rr)) /\ ((Plain (gC enR g)) /\ ((0 = 0) /\ ((0 = 0) /\ (((0 : Int) = (0 : Int)) /\ (((0 : Int) = (0 : Int)) /\ (((0 : Int) = (0 : Int)) /\ ((Eq
  (α := List Value) ([]) ([])) /\ (∀ (y : FR), ((y = ftl (subs (GF.mk g 0)) 0) → (∃ g2 : GH, ((PH g2) /\ ((0 = 0) /\ ((List.length g2.2 = List.length y.1) /\ ((0 = 0) /\
  ((g2.3 = y.2) /\ ((0 = 0) /\ ((0 = 0) /\ ((0 = 0) /\ ((0 = 0) /\ ((0 = 0) /\ ((g2.8 = true) /\ ((Eq (α := List Value) (gC enR g2.1) (gC enR g)) /\ ((Plain (gC enR g2.1))
  /\ ((List.length g2.7 = 0) /\ ((g2.4 = y.3) /\ ((g2.5 = y.4) /\ ((g2.6 = y.5) /\ ((Eq (α := List Value) (iCells IntKind.i64 g2.2) (iCells IntKind.i64 y.1)) /\ ((Plain
  (iCells IntKind.i64 g2.2)) /\ ((Eq (α := List Value) (iCells IntKind.i64 g2.7) ([])) /\ ((g2.12 = (-1 : Int)) /\ ((g2.13 = (0 : Int)) /\ ((g2.14 = (0 : Int)) /\ ((g2.15 =
  false) /\ ((g2.9 = (0 : Int)) /\ ((g2.10 = (0 : Int)) /\ ((g2.11 = (0 : Int)) /\ (∀ (y2 : Unit), ((True) → (∃ y3 : Unit, ((True) /\ ((true = true) /\ ((Eq (α := List
  Value) (gC enR rr) (gC enR g2.1)) /\ ((Plain (gC enR rr)) /\ True))))))))))))))))))))))))))))))))))))))))))))))))))))) := by kernel_rfl
set_option maxHeartbeats 4000000 in
theorem G1_vc (rr : List (List Ac)) : mlG rr 1 (Sy.endsIn 1 130 (wsG rr)) =
  (∃ g : List (List Ac), ((PF (GF.mk g 1)) /\ ((0 = 0) /\ ((0 = 0) /\ ((0 = 0) /\ (((-1 : Int) = (-1 : Int)) /\ ((0 = 0) /\ (((0 : Int) = (0 : Int)) /\ ((Eq (α := List
  Value) (gC enR g) (gC enR rr)) /\ ((Plain (gC enR g)) /\ ((0 = 0) /\ ((1 = 1) /\ (((0 : Int) = (0 : Int)) /\ (((0 : Int) = (0 : Int)) /\ (((0 : Int) = (0 : Int)) /\ ((Eq
  (α := List Value) ([]) ([])) /\ (∀ (y : FR), ((y = ftl (subs (GF.mk g 1)) 0) → ((((True /\ (True /\ (True /\ True))) /\ ((((1 <= List.length (gC enR g) /\ Plain (List.take
  1 (List.drop 0 (gC enR g)))) /\ True) /\ ((True /\ True) /\ ((True /\ True) /\ (True /\ (Plain [] /\ True))))) /\ ((Plain (iCells IntKind.i64 ([] ++ vNs (Row.mk (List.take
  1 (List.drop 0 (gC enR g))) true (Ob.cells true)) (0 : Int))) /\ True) /\ (IsF (Row.mk (List.take 1 (List.drop 0 (gC enR g))) true (Ob.cells true)) 1 (0 : Int) 0 /\ IsZ
  (Row.mk [] false (Ob.cells true)) 0))))) /\ (br (vOk (Row.mk (List.take 1 (List.drop 0 (gC enR g))) true (Ob.cells true)) (0 : Int)) (∃ g2 : GH, ((PH g2) /\ ((0 = 0) /\
  ((List.length g2.2 = List.length y.1) /\ ((0 = 0) /\ ((g2.3 = y.2) /\ ((0 = 0) /\ ((0 = 0) /\ ((0 = 0) /\ ((0 = 0) /\ ((0 = 0) /\ ((g2.8 = true) /\ ((Eq (α := List Value)
  (gC enR g2.1) (gC enR g)) /\ ((Plain (gC enR g2.1)) /\ ((0 = 0) /\ ((List.length g2.7 = 0 + vLn (Row.mk (List.take 1 (List.drop 0 (gC enR g))) true (Ob.cells true)) (0 :
  Int)) /\ ((g2.4 = y.3) /\ ((g2.5 = y.4) /\ ((g2.6 = y.5) /\ ((Eq (α := List Value) (iCells IntKind.i64 g2.2) (iCells IntKind.i64 y.1)) /\ ((Plain (iCells IntKind.i64
  g2.2)) /\ ((Eq (α := List Value) (iCells IntKind.i64 g2.7) (iCells IntKind.i64 ([] ++ vNs (Row.mk (List.take 1 (List.drop 0 (gC enR g))) true (Ob.cells true)) (0 : Int))))
  /\ ((Plain (iCells IntKind.i64 g2.7)) /\ ((g2.12 = (-1 : Int)) /\ ((g2.13 = (0 : Int)) /\ ((g2.14 = (0 : Int)) /\ ((g2.15 = false) /\ ((g2.9 = (0 : Int)) /\ ((g2.10 = (0 :
  Int)) /\ ((g2.11 = (0 : Int)) /\ (∀ (y2 : Unit), ((True) → (∃ y3 : Unit, ((True) /\ ((true = true) /\ ((Eq (α := List Value) (gC enR rr) (gC enR g2.1)) /\ ((Plain (gC enR
  rr)) /\ True))))))))))))))))))))))))))))))))))))) (br (vRt (Row.mk (List.take 1 (List.drop 0 (gC enR g))) true (Ob.cells true)) (0 : Int)) ((noGo (PanicEntry.mk
  (Value.iface 10 (Value.string dS)) true false :: reps 10 dS (Int.toNat (vDep (Row.mk (List.take 1 (List.drop 0 (gC enR g))) true (Ob.cells true)) (0 : Int)))) = true) /\
  (∃ g2 : GH, ((PH g2) /\ ((0 = 0) /\ ((List.length g2.2 = List.length y.1) /\ ((0 = 0) /\ ((g2.3 = y.2) /\ ((0 = 0) /\ ((0 = 0) /\ ((0 = 0) /\ ((0 = 0) /\ ((0 = 0) /\
  ((g2.8 = true) /\ ((Eq (α := List Value) (gC enR g2.1) (gC enR g)) /\ ((Plain (gC enR g2.1)) /\ ((0 = 0) /\ ((List.length g2.7 = 0 + vLn (Row.mk (List.take 1 (List.drop 0
  (gC enR g))) true (Ob.cells true)) (0 : Int)) /\ ((g2.4 = y.3) /\ ((g2.5 = y.4) /\ ((g2.6 = y.5) /\ ((Eq (α := List Value) (iCells IntKind.i64 g2.2) (iCells IntKind.i64
  y.1)) /\ ((Plain (iCells IntKind.i64 g2.2)) /\ ((Eq (α := List Value) (iCells IntKind.i64 g2.7) (iCells IntKind.i64 ([] ++ vNs (Row.mk (List.take 1 (List.drop 0 (gC enR
  g))) true (Ob.cells true)) (0 : Int)))) /\ ((Plain (iCells IntKind.i64 g2.7)) /\ ((g2.12 = (-2 : Int)) /\ ((g2.13 = (0 : Int)) /\ ((g2.14 = (0 : Int)) /\ ((g2.15 = false)
  /\ ((g2.9 = (2 : Int)) /\ ((g2.10 = (0 : Int)) /\ ((g2.11 = (0 : Int)) /\ (∀ (y2 : Unit), ((True) → (∃ y3 : Unit, ((True) /\ ((true = true) /\ ((Eq (α := List Value) (gC
  enR rr) (gC enR g2.1)) /\ ((Plain (gC enR rr)) /\ True)))))))))))))))))))))))))))))))))))))) ((true = true) /\ ((Value.agg (Array.mk [Value.int IntKind.i64 (vCode (Row.mk
  (List.take 1 (List.drop 0 (gC enR g))) true (Ob.cells true)) (0 : Int)), Value.int IntKind.i64 (vPos (Row.mk (List.take 1 (List.drop 0 (gC enR g))) true (Ob.cells true))
  (0 : Int))]) = Value.agg (Array.mk [Value.int IntKind.i64 (vCode (Row.mk (List.take 1 (List.drop 0 (gC enR g))) true (Ob.cells true)) (0 : Int)), Value.int IntKind.i64
  (vPos (Row.mk (List.take 1 (List.drop 0 (gC enR g))) true (Ob.cells true)) (0 : Int))])) /\ (∃ g2 : GH, ((PH g2) /\ ((0 = 0) /\ ((List.length g2.2 = List.length y.1) /\
  ((0 = 0) /\ ((g2.3 = y.2) /\ ((0 = 0) /\ ((0 = 0) /\ ((0 = 0) /\ ((0 = 0) /\ ((0 = 0) /\ ((g2.8 = true) /\ ((Eq (α := List Value) (gC enR g2.1) (gC enR g)) /\ ((Plain (gC
  enR g2.1)) /\ ((0 = 0) /\ ((List.length g2.7 = 0 + vLn (Row.mk (List.take 1 (List.drop 0 (gC enR g))) true (Ob.cells true)) (0 : Int)) /\ ((g2.4 = y.3) /\ ((g2.5 = y.4) /\
  ((g2.6 = y.5) /\ ((Eq (α := List Value) (iCells IntKind.i64 g2.2) (iCells IntKind.i64 y.1)) /\ ((Plain (iCells IntKind.i64 g2.2)) /\ ((Eq (α := List Value) (iCells
  IntKind.i64 g2.7) (iCells IntKind.i64 ([] ++ vNs (Row.mk (List.take 1 (List.drop 0 (gC enR g))) true (Ob.cells true)) (0 : Int)))) /\ ((Plain (iCells IntKind.i64 g2.7)) /\
  ((g2.12 = (0 : Int)) /\ ((g2.13 = vCode (Row.mk (List.take 1 (List.drop 0 (gC enR g))) true (Ob.cells true)) (0 : Int)) /\ ((g2.14 = vPos (Row.mk (List.take 1 (List.drop 0
  (gC enR g))) true (Ob.cells true)) (0 : Int)) /\ ((g2.15 = true) /\ ((g2.9 = (0 : Int)) /\ ((g2.10 = (0 : Int)) /\ ((g2.11 = (0 : Int)) /\ (∀ (y2 : Unit), ((True) → (∃ y3
  : Unit, ((True) /\ ((true = true) /\ ((Eq (α := List Value) (gC enR rr) (gC enR g2.1)) /\ ((Plain (gC enR rr)) /\
  True)))))))))))))))))))))))))))))))))))))))))))))))))))))))))))) := by kernel_rfl
set_option maxHeartbeats 4000000 in
theorem G2_vc (rr : List (List Ac)) : mlG rr 2 (Sy.endsIn 1 130 (wsG rr)) =
  (∃ g : List (List Ac), ((PF (GF.mk g 2)) /\ ((0 = 0) /\ ((0 = 0) /\ ((0 = 0) /\ (((-1 : Int) = (-1 : Int)) /\ ((0 = 0) /\ (((0 : Int) = (0 : Int)) /\ ((Eq (α := List
  Value) (gC enR g) (gC enR rr)) /\ ((Plain (gC enR g)) /\ ((0 = 0) /\ ((2 = 2) /\ (((0 : Int) = (0 : Int)) /\ (((0 : Int) = (0 : Int)) /\ (((0 : Int) = (0 : Int)) /\ ((Eq
  (α := List Value) ([]) ([])) /\ (∀ (y : FR), ((y = ftl (subs (GF.mk g 2)) 0) → ((((True /\ (True /\ (True /\ True))) /\ ((((2 <= List.length (gC enR g) /\ Plain (List.take
  2 (List.drop 0 (gC enR g)))) /\ True) /\ ((True /\ True) /\ ((True /\ True) /\ (True /\ (Plain [] /\ True))))) /\ ((Plain (iCells IntKind.i64 ([] ++ vNs (Row.mk (List.take
  2 (List.drop 0 (gC enR g))) true (Ob.cells true)) (0 : Int))) /\ True) /\ (IsF (Row.mk (List.take 2 (List.drop 0 (gC enR g))) true (Ob.cells true)) 2 (0 : Int) 0 /\ IsZ
  (Row.mk [] false (Ob.cells true)) 0))))) /\ (br (vOk (Row.mk (List.take 2 (List.drop 0 (gC enR g))) true (Ob.cells true)) (0 : Int)) ((((True /\ (True /\ (True /\ True)))
  /\ ((((2 <= List.length (gC enR g) /\ Plain (List.take 2 (List.drop 0 (gC enR g)))) /\ True) /\ ((True /\ True) /\ ((True /\ True) /\ (True /\ (Plain (iCells IntKind.i64
  ([] ++ vNs (Row.mk (List.take 2 (List.drop 0 (gC enR g))) true (Ob.cells true)) (0 : Int))) /\ True))))) /\ ((Plain (iCells IntKind.i64 (dI (Row.mk (iCells IntKind.i64 ([]
  ++ vNs (Row.mk (List.take 2 (List.drop 0 (gC enR g))) true (Ob.cells true)) (0 : Int))) false (Ob.cells true)) ++ vNs (Row.mk (List.take 2 (List.drop 0 (gC enR g))) true
  (Ob.cells true)) (1 : Int))) /\ True) /\ (IsF (Row.mk (List.take 2 (List.drop 0 (gC enR g))) true (Ob.cells true)) 2 (1 : Int) (0 + vLn (Row.mk (List.take 2 (List.drop 0
  (gC enR g))) true (Ob.cells true)) (0 : Int)) /\ IsZ (Row.mk (iCells IntKind.i64 ([] ++ vNs (Row.mk (List.take 2 (List.drop 0 (gC enR g))) true (Ob.cells true)) (0 :
  Int))) false (Ob.cells true)) (0 + vLn (Row.mk (List.take 2 (List.drop 0 (gC enR g))) true (Ob.cells true)) (0 : Int))))))) /\ (br (vOk (Row.mk (List.take 2 (List.drop 0
  (gC enR g))) true (Ob.cells true)) (1 : Int)) (∃ g2 : GH, ((PH g2) /\ ((0 = 0) /\ ((List.length g2.2 = List.length y.1) /\ ((0 = 0) /\ ((g2.3 = y.2) /\ ((0 = 0) /\ ((0 =
  0) /\ ((0 = 0) /\ ((0 = 0) /\ ((0 = 0) /\ ((g2.8 = true) /\ ((Eq (α := List Value) (gC enR g2.1) (gC enR g)) /\ ((Plain (gC enR g2.1)) /\ ((0 = 0) /\ ((List.length g2.7 =
  0 + vLn (Row.mk (List.take 2 (List.drop 0 (gC enR g))) true (Ob.cells true)) (0 : Int) + vLn (Row.mk (List.take 2 (List.drop 0 (gC enR g))) true (Ob.cells true)) (1 :
  Int)) /\ ((g2.4 = y.3) /\ ((g2.5 = y.4) /\ ((g2.6 = y.5) /\ ((Eq (α := List Value) (iCells IntKind.i64 g2.2) (iCells IntKind.i64 y.1)) /\ ((Plain (iCells IntKind.i64
  g2.2)) /\ ((Eq (α := List Value) (iCells IntKind.i64 g2.7) (iCells IntKind.i64 (dI (Row.mk (iCells IntKind.i64 ([] ++ vNs (Row.mk (List.take 2 (List.drop 0 (gC enR g)))
  true (Ob.cells true)) (0 : Int))) false (Ob.cells true)) ++ vNs (Row.mk (List.take 2 (List.drop 0 (gC enR g))) true (Ob.cells true)) (1 : Int)))) /\ ((Plain (iCells
  IntKind.i64 g2.7)) /\ ((g2.12 = (-1 : Int)) /\ ((g2.13 = (0 : Int)) /\ ((g2.14 = (0 : Int)) /\ ((g2.15 = false) /\ ((g2.9 = (0 : Int)) /\ ((g2.10 = (0 : Int)) /\ ((g2.11 =
  (0 : Int)) /\ (∀ (y2 : Unit), ((True) → (∃ y3 : Unit, ((True) /\ ((true = true) /\ ((Eq (α := List Value) (gC enR rr) (gC enR g2.1)) /\ ((Plain (gC enR rr)) /\
  True))))))))))))))))))))))))))))))))))))) (br (vRt (Row.mk (List.take 2 (List.drop 0 (gC enR g))) true (Ob.cells true)) (1 : Int)) ((noGo (PanicEntry.mk (Value.iface 10
  (Value.string dS)) true false :: reps 10 dS (Int.toNat (vDep (Row.mk (List.take 2 (List.drop 0 (gC enR g))) true (Ob.cells true)) (1 : Int)))) = true) /\ (∃ g2 : GH, ((PH
  g2) /\ ((0 = 0) /\ ((List.length g2.2 = List.length y.1) /\ ((0 = 0) /\ ((g2.3 = y.2) /\ ((0 = 0) /\ ((0 = 0) /\ ((0 = 0) /\ ((0 = 0) /\ ((0 = 0) /\ ((g2.8 = true) /\ ((Eq
  (α := List Value) (gC enR g2.1) (gC enR g)) /\ ((Plain (gC enR g2.1)) /\ ((0 = 0) /\ ((List.length g2.7 = 0 + vLn (Row.mk (List.take 2 (List.drop 0 (gC enR g))) true
  (Ob.cells true)) (0 : Int) + vLn (Row.mk (List.take 2 (List.drop 0 (gC enR g))) true (Ob.cells true)) (1 : Int)) /\ ((g2.4 = y.3) /\ ((g2.5 = y.4) /\ ((g2.6 = y.5) /\ ((Eq
  (α := List Value) (iCells IntKind.i64 g2.2) (iCells IntKind.i64 y.1)) /\ ((Plain (iCells IntKind.i64 g2.2)) /\ ((Eq (α := List Value) (iCells IntKind.i64 g2.7) (iCells
  IntKind.i64 (dI (Row.mk (iCells IntKind.i64 ([] ++ vNs (Row.mk (List.take 2 (List.drop 0 (gC enR g))) true (Ob.cells true)) (0 : Int))) false (Ob.cells true)) ++ vNs
  (Row.mk (List.take 2 (List.drop 0 (gC enR g))) true (Ob.cells true)) (1 : Int)))) /\ ((Plain (iCells IntKind.i64 g2.7)) /\ ((g2.12 = (-2 : Int)) /\ ((g2.13 = (0 : Int)) /\
  ((g2.14 = (0 : Int)) /\ ((g2.15 = false) /\ ((g2.9 = (2 : Int)) /\ ((g2.10 = (0 : Int)) /\ ((g2.11 = (0 : Int)) /\ (∀ (y2 : Unit), ((True) → (∃ y3 : Unit, ((True) /\
  ((true = true) /\ ((Eq (α := List Value) (gC enR rr) (gC enR g2.1)) /\ ((Plain (gC enR rr)) /\ True)))))))))))))))))))))))))))))))))))))) ((true = true) /\ ((Value.agg
  (Array.mk [Value.int IntKind.i64 (vCode (Row.mk (List.take 2 (List.drop 0 (gC enR g))) true (Ob.cells true)) (1 : Int)), Value.int IntKind.i64 (vPos (Row.mk (List.take 2
  (List.drop 0 (gC enR g))) true (Ob.cells true)) (1 : Int))]) = Value.agg (Array.mk [Value.int IntKind.i64 (vCode (Row.mk (List.take 2 (List.drop 0 (gC enR g))) true
  (Ob.cells true)) (1 : Int)), Value.int IntKind.i64 (vPos (Row.mk (List.take 2 (List.drop 0 (gC enR g))) true (Ob.cells true)) (1 : Int))])) /\ (∃ g2 : GH, ((PH g2) /\ ((0
  = 0) /\ ((List.length g2.2 = List.length y.1) /\ ((0 = 0) /\ ((g2.3 = y.2) /\ ((0 = 0) /\ ((0 = 0) /\ ((0 = 0) /\ ((0 = 0) /\ ((0 = 0) /\ ((g2.8 = true) /\ ((Eq (α := List
  Value) (gC enR g2.1) (gC enR g)) /\ ((Plain (gC enR g2.1)) /\ ((0 = 0) /\ ((List.length g2.7 = 0 + vLn (Row.mk (List.take 2 (List.drop 0 (gC enR g))) true (Ob.cells true))
  (0 : Int) + vLn (Row.mk (List.take 2 (List.drop 0 (gC enR g))) true (Ob.cells true)) (1 : Int)) /\ ((g2.4 = y.3) /\ ((g2.5 = y.4) /\ ((g2.6 = y.5) /\ ((Eq (α := List
  Value) (iCells IntKind.i64 g2.2) (iCells IntKind.i64 y.1)) /\ ((Plain (iCells IntKind.i64 g2.2)) /\ ((Eq (α := List Value) (iCells IntKind.i64 g2.7) (iCells IntKind.i64
  (dI (Row.mk (iCells IntKind.i64 ([] ++ vNs (Row.mk (List.take 2 (List.drop 0 (gC enR g))) true (Ob.cells true)) (0 : Int))) false (Ob.cells true)) ++ vNs (Row.mk
  (List.take 2 (List.drop 0 (gC enR g))) true (Ob.cells true)) (1 : Int)))) /\ ((Plain (iCells IntKind.i64 g2.7)) /\ ((g2.12 = (1 : Int)) /\ ((g2.13 = vCode (Row.mk
  (List.take 2 (List.drop 0 (gC enR g))) true (Ob.cells true)) (1 : Int)) /\ ((g2.14 = vPos (Row.mk (List.take 2 (List.drop 0 (gC enR g))) true (Ob.cells true)) (1 : Int))
  /\ ((g2.15 = true) /\ ((g2.9 = (0 : Int)) /\ ((g2.10 = (0 : Int)) /\ ((g2.11 = (0 : Int)) /\ (∀ (y2 : Unit), ((True) → (∃ y3 : Unit, ((True) /\ ((true = true) /\ ((Eq (α
  := List Value) (gC enR rr) (gC enR g2.1)) /\ ((Plain (gC enR rr)) /\ True)))))))))))))))))))))))))))))))))))))))))) (br (vRt (Row.mk (List.take 2 (List.drop 0 (gC enR g)))
  true (Ob.cells true)) (0 : Int)) ((noGo (PanicEntry.mk (Value.iface 10 (Value.string dS)) true false :: reps 10 dS (Int.toNat (vDep (Row.mk (List.take 2 (List.drop 0 (gC
  enR g))) true (Ob.cells true)) (0 : Int)))) = true) /\ (∃ g2 : GH, ((PH g2) /\ ((0 = 0) /\ ((List.length g2.2 = List.length y.1) /\ ((0 = 0) /\ ((g2.3 = y.2) /\ ((0 = 0)
  /\ ((0 = 0) /\ ((0 = 0) /\ ((0 = 0) /\ ((0 = 0) /\ ((g2.8 = true) /\ ((Eq (α := List Value) (gC enR g2.1) (gC enR g)) /\ ((Plain (gC enR g2.1)) /\ ((0 = 0) /\
  ((List.length g2.7 = 0 + vLn (Row.mk (List.take 2 (List.drop 0 (gC enR g))) true (Ob.cells true)) (0 : Int)) /\ ((g2.4 = y.3) /\ ((g2.5 = y.4) /\ ((g2.6 = y.5) /\ ((Eq (α
  := List Value) (iCells IntKind.i64 g2.2) (iCells IntKind.i64 y.1)) /\ ((Plain (iCells IntKind.i64 g2.2)) /\ ((Eq (α := List Value) (iCells IntKind.i64 g2.7) (iCells
  IntKind.i64 ([] ++ vNs (Row.mk (List.take 2 (List.drop 0 (gC enR g))) true (Ob.cells true)) (0 : Int)))) /\ ((Plain (iCells IntKind.i64 g2.7)) /\ ((g2.12 = (-2 : Int)) /\
  ((g2.13 = (0 : Int)) /\ ((g2.14 = (0 : Int)) /\ ((g2.15 = false) /\ ((g2.9 = (2 : Int)) /\ ((g2.10 = (0 : Int)) /\ ((g2.11 = (0 : Int)) /\ (∀ (y2 : Unit), ((True) → (∃ y3
  : Unit, ((True) /\ ((true = true) /\ ((Eq (α := List Value) (gC enR rr) (gC enR g2.1)) /\ ((Plain (gC enR rr)) /\ True)))))))))))))))))))))))))))))))))))))) ((true = true)
  /\ ((Value.agg (Array.mk [Value.int IntKind.i64 (vCode (Row.mk (List.take 2 (List.drop 0 (gC enR g))) true (Ob.cells true)) (0 : Int)), Value.int IntKind.i64 (vPos (Row.mk
  (List.take 2 (List.drop 0 (gC enR g))) true (Ob.cells true)) (0 : Int))]) = Value.agg (Array.mk [Value.int IntKind.i64 (vCode (Row.mk (List.take 2 (List.drop 0 (gC enR
  g))) true (Ob.cells true)) (0 : Int)), Value.int IntKind.i64 (vPos (Row.mk (List.take 2 (List.drop 0 (gC enR g))) true (Ob.cells true)) (0 : Int))])) /\ (∃ g2 : GH, ((PH
  g2) /\ ((0 = 0) /\ ((List.length g2.2 = List.length y.1) /\ ((0 = 0) /\ ((g2.3 = y.2) /\ ((0 = 0) /\ ((0 = 0) /\ ((0 = 0) /\ ((0 = 0) /\ ((0 = 0) /\ ((g2.8 = true) /\ ((Eq
  (α := List Value) (gC enR g2.1) (gC enR g)) /\ ((Plain (gC enR g2.1)) /\ ((0 = 0) /\ ((List.length g2.7 = 0 + vLn (Row.mk (List.take 2 (List.drop 0 (gC enR g))) true
  (Ob.cells true)) (0 : Int)) /\ ((g2.4 = y.3) /\ ((g2.5 = y.4) /\ ((g2.6 = y.5) /\ ((Eq (α := List Value) (iCells IntKind.i64 g2.2) (iCells IntKind.i64 y.1)) /\ ((Plain
  (iCells IntKind.i64 g2.2)) /\ ((Eq (α := List Value) (iCells IntKind.i64 g2.7) (iCells IntKind.i64 ([] ++ vNs (Row.mk (List.take 2 (List.drop 0 (gC enR g))) true (Ob.cells
  true)) (0 : Int)))) /\ ((Plain (iCells IntKind.i64 g2.7)) /\ ((g2.12 = (0 : Int)) /\ ((g2.13 = vCode (Row.mk (List.take 2 (List.drop 0 (gC enR g))) true (Ob.cells true))
  (0 : Int)) /\ ((g2.14 = vPos (Row.mk (List.take 2 (List.drop 0 (gC enR g))) true (Ob.cells true)) (0 : Int)) /\ ((g2.15 = true) /\ ((g2.9 = (0 : Int)) /\ ((g2.10 = (0 :
  Int)) /\ ((g2.11 = (0 : Int)) /\ (∀ (y2 : Unit), ((True) → (∃ y3 : Unit, ((True) /\ ((true = true) /\ ((Eq (α := List Value) (gC enR rr) (gC enR g2.1)) /\ ((Plain (gC enR
  rr)) /\ True)))))))))))))))))))))))))))))))))))))))))))))))))))))))))))) := by kernel_rfl
set_option maxHeartbeats 4000000 in
theorem G3_vc (rr : List (List Ac)) : mlG rr 3 (Sy.endsIn 1 130 (wsG rr)) =
  (∃ g : List (List Ac), ((PF (GF.mk g 3)) /\ ((0 = 0) /\ ((0 = 0) /\ ((0 = 0) /\ (((-1 : Int) = (-1 : Int)) /\ ((0 = 0) /\ (((0 : Int) = (0 : Int)) /\ ((Eq (α := List
  Value) (gC enR g) (gC enR rr)) /\ ((Plain (gC enR g)) /\ ((0 = 0) /\ ((3 = 3) /\ (((0 : Int) = (0 : Int)) /\ (((0 : Int) = (0 : Int)) /\ (((0 : Int) = (0 : Int)) /\ ((Eq
  (α := List Value) ([]) ([])) /\ (∀ (y : FR), ((y = ftl (subs (GF.mk g 3)) 0) → ((((True /\ (True /\ (True /\ True))) /\ ((((3 <= List.length (gC enR g) /\ Plain (List.take
  3 (List.drop 0 (gC enR g)))) /\ True) /\ ((True /\ True) /\ ((True /\ True) /\ (True /\ (Plain [] /\ True))))) /\ ((Plain (iCells IntKind.i64 ([] ++ vNs (Row.mk (List.take
  3 (List.drop 0 (gC enR g))) true (Ob.cells true)) (0 : Int))) /\ True) /\ (IsF (Row.mk (List.take 3 (List.drop 0 (gC enR g))) true (Ob.cells true)) 3 (0 : Int) 0 /\ IsZ
  (Row.mk [] false (Ob.cells true)) 0))))) /\ (br (vOk (Row.mk (List.take 3 (List.drop 0 (gC enR g))) true (Ob.cells true)) (0 : Int)) ((((True /\ (True /\ (True /\ True)))
  /\ ((((3 <= List.length (gC enR g) /\ Plain (List.take 3 (List.drop 0 (gC enR g)))) /\ True) /\ ((True /\ True) /\ ((True /\ True) /\ (True /\ (Plain (iCells IntKind.i64
  ([] ++ vNs (Row.mk (List.take 3 (List.drop 0 (gC enR g))) true (Ob.cells true)) (0 : Int))) /\ True))))) /\ ((Plain (iCells IntKind.i64 (dI (Row.mk (iCells IntKind.i64 ([]
  ++ vNs (Row.mk (List.take 3 (List.drop 0 (gC enR g))) true (Ob.cells true)) (0 : Int))) false (Ob.cells true)) ++ vNs (Row.mk (List.take 3 (List.drop 0 (gC enR g))) true
  (Ob.cells true)) (1 : Int))) /\ True) /\ (IsF (Row.mk (List.take 3 (List.drop 0 (gC enR g))) true (Ob.cells true)) 3 (1 : Int) (0 + vLn (Row.mk (List.take 3 (List.drop 0
  (gC enR g))) true (Ob.cells true)) (0 : Int)) /\ IsZ (Row.mk (iCells IntKind.i64 ([] ++ vNs (Row.mk (List.take 3 (List.drop 0 (gC enR g))) true (Ob.cells true)) (0 :
  Int))) false (Ob.cells true)) (0 + vLn (Row.mk (List.take 3 (List.drop 0 (gC enR g))) true (Ob.cells true)) (0 : Int))))))) /\ (br (vOk (Row.mk (List.take 3 (List.drop 0
  (gC enR g))) true (Ob.cells true)) (1 : Int)) ((((True /\ (True /\ (True /\ True))) /\ ((((3 <= List.length (gC enR g) /\ Plain (List.take 3 (List.drop 0 (gC enR g)))) /\
  True) /\ ((True /\ True) /\ ((True /\ True) /\ (True /\ (Plain (iCells IntKind.i64 (dI (Row.mk (iCells IntKind.i64 ([] ++ vNs (Row.mk (List.take 3 (List.drop 0 (gC enR
  g))) true (Ob.cells true)) (0 : Int))) false (Ob.cells true)) ++ vNs (Row.mk (List.take 3 (List.drop 0 (gC enR g))) true (Ob.cells true)) (1 : Int))) /\ True))))) /\
  ((Plain (iCells IntKind.i64 (dI (Row.mk (iCells IntKind.i64 (dI (Row.mk (iCells IntKind.i64 ([] ++ vNs (Row.mk (List.take 3 (List.drop 0 (gC enR g))) true (Ob.cells true))
  (0 : Int))) false (Ob.cells true)) ++ vNs (Row.mk (List.take 3 (List.drop 0 (gC enR g))) true (Ob.cells true)) (1 : Int))) false (Ob.cells true)) ++ vNs (Row.mk (List.take
  3 (List.drop 0 (gC enR g))) true (Ob.cells true)) (2 : Int))) /\ True) /\ (IsF (Row.mk (List.take 3 (List.drop 0 (gC enR g))) true (Ob.cells true)) 3 (2 : Int) (0 + vLn
  (Row.mk (List.take 3 (List.drop 0 (gC enR g))) true (Ob.cells true)) (0 : Int) + vLn (Row.mk (List.take 3 (List.drop 0 (gC enR g))) true (Ob.cells true)) (1 : Int)) /\ IsZ
  (Row.mk (iCells IntKind.i64 (dI (Row.mk (iCells IntKind.i64 ([] ++ vNs (Row.mk (List.take 3 (List.drop 0 (gC enR g))) true (Ob.cells true)) (0 : Int))) false (Ob.cells
  true)) ++ vNs (Row.mk (List.take 3 (List.drop 0 (gC enR g))) true (Ob.cells true)) (1 : Int))) false (Ob.cells true)) (0 + vLn (Row.mk (List.take 3 (List.drop 0 (gC enR
  g))) true (Ob.cells true)) (0 : Int) + vLn (Row.mk (List.take 3 (List.drop 0 (gC enR g))) true (Ob.cells true)) (1 : Int))))))) /\ (br (vOk (Row.mk (List.take 3 (List.drop
  0 (gC enR g))) true (Ob.cells true)) (2 : Int)) (∃ g2 : GH, ((PH g2) /\ ((0 = 0) /\ ((List.length g2.2 = List.length y.1) /\ ((0 = 0) /\ ((g2.3 = y.2) /\ ((0 = 0) /\ ((0 =
  0) /\ ((0 = 0) /\ ((0 = 0) /\ ((0 = 0) /\ ((g2.8 = true) /\ ((Eq (α := List Value) (gC enR g2.1) (gC enR g)) /\ ((Plain (gC enR g2.1)) /\ ((0 = 0) /\ ((List.length g2.7 =
  0 + vLn (Row.mk (List.take 3 (List.drop 0 (gC enR g))) true (Ob.cells true)) (0 : Int) + vLn (Row.mk (List.take 3 (List.drop 0 (gC enR g))) true (Ob.cells true)) (1 : Int)
  + vLn (Row.mk (List.take 3 (List.drop 0 (gC enR g))) true (Ob.cells true)) (2 : Int)) /\ ((g2.4 = y.3) /\ ((g2.5 = y.4) /\ ((g2.6 = y.5) /\ ((Eq (α := List Value) (iCells
  IntKind.i64 g2.2) (iCells IntKind.i64 y.1)) /\ ((Plain (iCells IntKind.i64 g2.2)) /\ ((Eq (α := List Value) (iCells IntKind.i64 g2.7) (iCells IntKind.i64 (dI (Row.mk
  (iCells IntKind.i64 (dI (Row.mk (iCells IntKind.i64 ([] ++ vNs (Row.mk (List.take 3 (List.drop 0 (gC enR g))) true (Ob.cells true)) (0 : Int))) false (Ob.cells true)) ++
  vNs (Row.mk (List.take 3 (List.drop 0 (gC enR g))) true (Ob.cells true)) (1 : Int))) false (Ob.cells true)) ++ vNs (Row.mk (List.take 3 (List.drop 0 (gC enR g))) true
  (Ob.cells true)) (2 : Int)))) /\ ((Plain (iCells IntKind.i64 g2.7)) /\ ((g2.12 = (-1 : Int)) /\ ((g2.13 = (0 : Int)) /\ ((g2.14 = (0 : Int)) /\ ((g2.15 = false) /\ ((g2.9
  = (0 : Int)) /\ ((g2.10 = (0 : Int)) /\ ((g2.11 = (0 : Int)) /\ (∀ (y2 : Unit), ((True) → (∃ y3 : Unit, ((True) /\ ((true = true) /\ ((Eq (α := List Value) (gC enR rr) (gC
  enR g2.1)) /\ ((Plain (gC enR rr)) /\ True))))))))))))))))))))))))))))))))))))) (br (vRt (Row.mk (List.take 3 (List.drop 0 (gC enR g))) true (Ob.cells true)) (2 : Int))
  ((noGo (PanicEntry.mk (Value.iface 10 (Value.string dS)) true false :: reps 10 dS (Int.toNat (vDep (Row.mk (List.take 3 (List.drop 0 (gC enR g))) true (Ob.cells true)) (2
  : Int)))) = true) /\ (∃ g2 : GH, ((PH g2) /\ ((0 = 0) /\ ((List.length g2.2 = List.length y.1) /\ ((0 = 0) /\ ((g2.3 = y.2) /\ ((0 = 0) /\ ((0 = 0) /\ ((0 = 0) /\ ((0 = 0)
  /\ ((0 = 0) /\ ((g2.8 = true) /\ ((Eq (α := List Value) (gC enR g2.1) (gC enR g)) /\ ((Plain (gC enR g2.1)) /\ ((0 = 0) /\ ((List.length g2.7 = 0 + vLn (Row.mk (List.take
  3 (List.drop 0 (gC enR g))) true (Ob.cells true)) (0 : Int) + vLn (Row.mk (List.take 3 (List.drop 0 (gC enR g))) true (Ob.cells true)) (1 : Int) + vLn (Row.mk (List.take 3
  (List.drop 0 (gC enR g))) true (Ob.cells true)) (2 : Int)) /\ ((g2.4 = y.3) /\ ((g2.5 = y.4) /\ ((g2.6 = y.5) /\ ((Eq (α := List Value) (iCells IntKind.i64 g2.2) (iCells
  IntKind.i64 y.1)) /\ ((Plain (iCells IntKind.i64 g2.2)) /\ ((Eq (α := List Value) (iCells IntKind.i64 g2.7) (iCells IntKind.i64 (dI (Row.mk (iCells IntKind.i64 (dI (Row.mk
  (iCells IntKind.i64 ([] ++ vNs (Row.mk (List.take 3 (List.drop 0 (gC enR g))) true (Ob.cells true)) (0 : Int))) false (Ob.cells true)) ++ vNs (Row.mk (List.take 3
  (List.drop 0 (gC enR g))) true (Ob.cells true)) (1 : Int))) false (Ob.cells true)) ++ vNs (Row.mk (List.take 3 (List.drop 0 (gC enR g))) true (Ob.cells true)) (2 : Int))))
  /\ ((Plain (iCells IntKind.i64 g2.7)) /\ ((g2.12 = (-2 : Int)) /\ ((g2.13 = (0 : Int)) /\ ((g2.14 = (0 : Int)) /\ ((g2.15 = false) /\ ((g2.9 = (2 : Int)) /\ ((g2.10 = (0 :
  Int)) /\ ((g2.11 = (0 : Int)) /\ (∀ (y2 : Unit), ((True) → (∃ y3 : Unit, ((True) /\ ((true = true) /\ ((Eq (α := List Value) (gC enR rr) (gC enR g2.1)) /\ ((Plain (gC enR
  rr)) /\ True)))))))))))))))))))))))))))))))))))))) ((true = true) /\ ((Value.agg (Array.mk [Value.int IntKind.i64 (vCode (Row.mk (List.take 3 (List.drop 0 (gC enR g)))
  true (Ob.cells true)) (2 : Int)), Value.int IntKind.i64 (vPos (Row.mk (List.take 3 (List.drop 0 (gC enR g))) true (Ob.cells true)) (2 : Int))]) = Value.agg (Array.mk
  [Value.int IntKind.i64 (vCode (Row.mk (List.take 3 (List.drop 0 (gC enR g))) true (Ob.cells true)) (2 : Int)), Value.int IntKind.i64 (vPos (Row.mk (List.take 3 (List.drop
  0 (gC enR g))) true (Ob.cells true)) (2 : Int))])) /\ (∃ g2 : GH, ((PH g2) /\ ((0 = 0) /\ ((List.length g2.2 = List.length y.1) /\ ((0 = 0) /\ ((g2.3 = y.2) /\ ((0 = 0) /\
  ((0 = 0) /\ ((0 = 0) /\ ((0 = 0) /\ ((0 = 0) /\ ((g2.8 = true) /\ ((Eq (α := List Value) (gC enR g2.1) (gC enR g)) /\ ((Plain (gC enR g2.1)) /\ ((0 = 0) /\ ((List.length
  g2.7 = 0 + vLn (Row.mk (List.take 3 (List.drop 0 (gC enR g))) true (Ob.cells true)) (0 : Int) + vLn (Row.mk (List.take 3 (List.drop 0 (gC enR g))) true (Ob.cells true)) (1
  : Int) + vLn (Row.mk (List.take 3 (List.drop 0 (gC enR g))) true (Ob.cells true)) (2 : Int)) /\ ((g2.4 = y.3) /\ ((g2.5 = y.4) /\ ((g2.6 = y.5) /\ ((Eq (α := List Value)
  (iCells IntKind.i64 g2.2) (iCells IntKind.i64 y.1)) /\ ((Plain (iCells IntKind.i64 g2.2)) /\ ((Eq (α := List Value) (iCells IntKind.i64 g2.7) (iCells IntKind.i64 (dI
  (Row.mk (iCells IntKind.i64 (dI (Row.mk (iCells IntKind.i64 ([] ++ vNs (Row.mk (List.take 3 (List.drop 0 (gC enR g))) true (Ob.cells true)) (0 : Int))) false (Ob.cells
  true)) ++ vNs (Row.mk (List.take 3 (List.drop 0 (gC enR g))) true (Ob.cells true)) (1 : Int))) false (Ob.cells true)) ++ vNs (Row.mk (List.take 3 (List.drop 0 (gC enR g)))
  true (Ob.cells true)) (2 : Int)))) /\ ((Plain (iCells IntKind.i64 g2.7)) /\ ((g2.12 = (2 : Int)) /\ ((g2.13 = vCode (Row.mk (List.take 3 (List.drop 0 (gC enR g))) true
  (Ob.cells true)) (2 : Int)) /\ ((g2.14 = vPos (Row.mk (List.take 3 (List.drop 0 (gC enR g))) true (Ob.cells true)) (2 : Int)) /\ ((g2.15 = true) /\ ((g2.9 = (0 : Int)) /\
  ((g2.10 = (0 : Int)) /\ ((g2.11 = (0 : Int)) /\ (∀ (y2 : Unit), ((True) → (∃ y3 : Unit, ((True) /\ ((true = true) /\ ((Eq (α := List Value) (gC enR rr) (gC enR g2.1)) /\
  ((Plain (gC enR rr)) /\ True)))))))))))))))))))))))))))))))))))))))))) (br (vRt (Row.mk (List.take 3 (List.drop 0 (gC enR g))) true (Ob.cells true)) (1 : Int)) ((noGo
  (PanicEntry.mk (Value.iface 10 (Value.string dS)) true false :: reps 10 dS (Int.toNat (vDep (Row.mk (List.take 3 (List.drop 0 (gC enR g))) true (Ob.cells true)) (1 :
  Int)))) = true) /\ (∃ g2 : GH, ((PH g2) /\ ((0 = 0) /\ ((List.length g2.2 = List.length y.1) /\ ((0 = 0) /\ ((g2.3 = y.2) /\ ((0 = 0) /\ ((0 = 0) /\ ((0 = 0) /\ ((0 = 0)
  /\ ((0 = 0) /\ ((g2.8 = true) /\ ((Eq (α := List Value) (gC enR g2.1) (gC enR g)) /\ ((Plain (gC enR g2.1)) /\ ((0 = 0) /\ ((List.length g2.7 = 0 + vLn (Row.mk (List.take
  3 (List.drop 0 (gC enR g))) true (Ob.cells true)) (0 : Int) + vLn (Row.mk (List.take 3 (List.drop 0 (gC enR g))) true (Ob.cells true)) (1 : Int)) /\ ((g2.4 = y.3) /\
  ((g2.5 = y.4) /\ ((g2.6 = y.5) /\ ((Eq (α := List Value) (iCells IntKind.i64 g2.2) (iCells IntKind.i64 y.1)) /\ ((Plain (iCells IntKind.i64 g2.2)) /\ ((Eq (α := List
  Value) (iCells IntKind.i64 g2.7) (iCells IntKind.i64 (dI (Row.mk (iCells IntKind.i64 ([] ++ vNs (Row.mk (List.take 3 (List.drop 0 (gC enR g))) true (Ob.cells true)) (0 :
  Int))) false (Ob.cells true)) ++ vNs (Row.mk (List.take 3 (List.drop 0 (gC enR g))) true (Ob.cells true)) (1 : Int)))) /\ ((Plain (iCells IntKind.i64 g2.7)) /\ ((g2.12 =
  (-2 : Int)) /\ ((g2.13 = (0 : Int)) /\ ((g2.14 = (0 : Int)) /\ ((g2.15 = false) /\ ((g2.9 = (2 : Int)) /\ ((g2.10 = (0 : Int)) /\ ((g2.11 = (0 : Int)) /\ (∀ (y2 : Unit),
  ((True) → (∃ y3 : Unit, ((True) /\ ((true = true) /\ ((Eq (α := List Value) (gC enR rr) (gC enR g2.1)) /\ ((Plain (gC enR rr)) /\
  True)))))))))))))))))))))))))))))))))))))) ((true = true) /\ ((Value.agg (Array.mk [Value.int IntKind.i64 (vCode (Row.mk (List.take 3 (List.drop 0 (gC enR g))) true
  (Ob.cells true)) (1 : Int)), Value.int IntKind.i64 (vPos (Row.mk (List.take 3 (List.drop 0 (gC enR g))) true (Ob.cells true)) (1 : Int))]) = Value.agg (Array.mk [Value.int
  IntKind.i64 (vCode (Row.mk (List.take 3 (List.drop 0 (gC enR g))) true (Ob.cells true)) (1 : Int)), Value.int IntKind.i64 (vPos (Row.mk (List.take 3 (List.drop 0 (gC enR
  g))) true (Ob.cells true)) (1 : Int))])) /\ (∃ g2 : GH, ((PH g2) /\ ((0 = 0) /\ ((List.length g2.2 = List.length y.1) /\ ((0 = 0) /\ ((g2.3 = y.2) /\ ((0 = 0) /\ ((0 = 0)
  /\ ((0 = 0) /\ ((0 = 0) /\ ((0 = 0) /\ ((g2.8 = true) /\ ((Eq (α := List Value) (gC enR g2.1) (gC enR g)) /\ ((Plain (gC enR g2.1)) /\ ((0 = 0) /\ ((List.length g2.7 = 0 +
  vLn (Row.mk (List.take 3 (List.drop 0 (gC enR g))) true (Ob.cells true)) (0 : Int) + vLn (Row.mk (List.take 3 (List.drop 0 (gC enR g))) true (Ob.cells true)) (1 : Int)) /\
  ((g2.4 = y.3) /\ ((g2.5 = y.4) /\ ((g2.6 = y.5) /\ ((Eq (α := List Value) (iCells IntKind.i64 g2.2) (iCells IntKind.i64 y.1)) /\ ((Plain (iCells IntKind.i64 g2.2)) /\ ((Eq
  (α := List Value) (iCells IntKind.i64 g2.7) (iCells IntKind.i64 (dI (Row.mk (iCells IntKind.i64 ([] ++ vNs (Row.mk (List.take 3 (List.drop 0 (gC enR g))) true (Ob.cells
  true)) (0 : Int))) false (Ob.cells true)) ++ vNs (Row.mk (List.take 3 (List.drop 0 (gC enR g))) true (Ob.cells true)) (1 : Int)))) /\ ((Plain (iCells IntKind.i64 g2.7)) /\
  ((g2.12 = (1 : Int)) /\ ((g2.13 = vCode (Row.mk (List.take 3 (List.drop 0 (gC enR g))) true (Ob.cells true)) (1 : Int)) /\ ((g2.14 = vPos (Row.mk (List.take 3 (List.drop 0
  (gC enR g))) true (Ob.cells true)) (1 : Int)) /\ ((g2.15 = true) /\ ((g2.9 = (0 : Int)) /\ ((g2.10 = (0 : Int)) /\ ((g2.11 = (0 : Int)) /\ (∀ (y2 : Unit), ((True) → (∃ y3
  : Unit, ((True) /\ ((true = true) /\ ((Eq (α := List Value) (gC enR rr) (gC enR g2.1)) /\ ((Plain (gC enR rr)) /\ True)))))))))))))))))))))))))))))))))))))))))) (br (vRt
  (Row.mk (List.take 3 (List.drop 0 (gC enR g))) true (Ob.cells true)) (0 : Int)) ((noGo (PanicEntry.mk (Value.iface 10 (Value.string dS)) true false :: reps 10 dS
  (Int.toNat (vDep (Row.mk (List.take 3 (List.drop 0 (gC enR g))) true (Ob.cells true)) (0 : Int)))) = true) /\ (∃ g2 : GH, ((PH g2) /\ ((0 = 0) /\ ((List.length g2.2 =
  List.length y.1) /\ ((0 = 0) /\ ((g2.3 = y.2) /\ ((0 = 0) /\ ((0 = 0) /\ ((0 = 0) /\ ((0 = 0) /\ ((0 = 0) /\ ((g2.8 = true) /\ ((Eq (α := List Value) (gC enR g2.1) (gC enR
  g)) /\ ((Plain (gC enR g2.1)) /\ ((0 = 0) /\ ((List.length g2.7 = 0 + vLn (Row.mk (List.take 3 (List.drop 0 (gC enR g))) true (Ob.cells true)) (0 : Int)) /\ ((g2.4 = y.3)
  /\ ((g2.5 = y.4) /\ ((g2.6 = y.5) /\ ((Eq (α := List Value) (iCells IntKind.i64 g2.2) (iCells IntKind.i64 y.1)) /\ ((Plain (iCells IntKind.i64 g2.2)) /\ ((Eq (α := List
  Value) (iCells IntKind.i64 g2.7) (iCells IntKind.i64 ([] ++ vNs (Row.mk (List.take 3 (List.drop 0 (gC enR g))) true (Ob.cells true)) (0 : Int)))) /\ ((Plain (iCells
  IntKind.i64 g2.7)) /\ ((g2.12 = (-2 : Int)) /\ ((g2.13 = (0 : Int)) /\ ((g2.14 = (0 : Int)) /\ ((g2.15 = false) /\ ((g2.9 = (2 : Int)) /\ ((g2.10 = (0 : Int)) /\ ((g2.11 =
  (0 : Int)) /\ (∀ (y2 : Unit), ((True) → (∃ y3 : Unit, ((True) /\ ((true = true) /\ ((Eq (α := List Value) (gC enR rr) (gC enR g2.1)) /\ ((Plain (gC enR rr)) /\
  True)))))))))))))))))))))))))))))))))))))) ((true = true) /\ ((Value.agg (Array.mk [Value.int IntKind.i64 (vCode (Row.mk (List.take 3 (List.drop 0 (gC enR g))) true
  (Ob.cells true)) (0 : Int)), Value.int IntKind.i64 (vPos (Row.mk (List.take 3 (List.drop 0 (gC enR g))) true (Ob.cells true)) (0 : Int))]) = Value.agg (Array.mk [Value.int
  IntKind.i64 (vCode (Row.mk (List.take 3 (List.drop 0 (gC enR g))) true (Ob.cells true)) (0 : Int)), Value.int IntKind.i64 (vPos (Row.mk (List.take 3 (List.drop 0 (gC enR
  g))) true (Ob.cells true)) (0 : Int))])) /\ (∃ g2 : GH, ((PH g2) /\ ((0 = 0) /\ ((List.length g2.2 = List.length y.1) /\ ((0 = 0) /\ ((g2.3 = y.2) /\ ((0 = 0) /\ ((0 = 0)
  /\ ((0 = 0) /\ ((0 = 0) /\ ((0 = 0) /\ ((g2.8 = true) /\ ((Eq (α := List Value) (gC enR g2.1) (gC enR g)) /\ ((Plain (gC enR g2.1)) /\ ((0 = 0) /\ ((List.length g2.7 = 0 +
  vLn (Row.mk (List.take 3 (List.drop 0 (gC enR g))) true (Ob.cells true)) (0 : Int)) /\ ((g2.4 = y.3) /\ ((g2.5 = y.4) /\ ((g2.6 = y.5) /\ ((Eq (α := List Value) (iCells
  IntKind.i64 g2.2) (iCells IntKind.i64 y.1)) /\ ((Plain (iCells IntKind.i64 g2.2)) /\ ((Eq (α := List Value) (iCells IntKind.i64 g2.7) (iCells IntKind.i64 ([] ++ vNs
  (Row.mk (List.take 3 (List.drop 0 (gC enR g))) true (Ob.cells true)) (0 : Int)))) /\ ((Plain (iCells IntKind.i64 g2.7)) /\ ((g2.12 = (0 : Int)) /\ ((g2.13 = vCode (Row.mk
  (List.take 3 (List.drop 0 (gC enR g))) true (Ob.cells true)) (0 : Int)) /\ ((g2.14 = vPos (Row.mk (List.take 3 (List.drop 0 (gC enR g))) true (Ob.cells true)) (0 : Int))
  /\ ((g2.15 = true) /\ ((g2.9 = (0 : Int)) /\ ((g2.10 = (0 : Int)) /\ ((g2.11 = (0 : Int)) /\ (∀ (y2 : Unit), ((True) → (∃ y3 : Unit, ((True) /\ ((true = true) /\ ((Eq (α
  := List Value) (gC enR rr) (gC enR g2.1)) /\ ((Plain (gC enR rr)) /\ True)))))))))))))))))))))))))))))))))))))))))))))))))))))))))))) := by kernel_rfl
set_option maxHeartbeats 4000000 in
theorem G4_vc (rr : List (List Ac)) : mlG rr 4 (Sy.endsIn 1 130 (wsG rr)) =
  (∃ g : List (List Ac), ((PF (GF.mk g 4)) /\ ((0 = 0) /\ ((0 = 0) /\ ((0 = 0) /\ (((-1 : Int) = (-1 : Int)) /\ ((0 = 0) /\ (((0 : Int) = (0 : Int)) /\ ((Eq (α := List
  Value) (gC enR g) (gC enR rr)) /\ ((Plain (gC enR g)) /\ ((0 = 0) /\ ((4 = 4) /\ (((0 : Int) = (0 : Int)) /\ (((0 : Int) = (0 : Int)) /\ (((0 : Int) = (0 : Int)) /\ ((Eq
  (α := List Value) ([]) ([])) /\ (∀ (y : FR), ((y = ftl (subs (GF.mk g 4)) 0) → ((((True /\ (True /\ (True /\ True))) /\ ((((4 <= List.length (gC enR g) /\ Plain (List.take
  4 (List.drop 0 (gC enR g)))) /\ True) /\ ((True /\ True) /\ ((True /\ True) /\ (True /\ (Plain [] /\ True))))) /\ ((Plain (iCells IntKind.i64 ([] ++ vNs (Row.mk (List.take
  4 (List.drop 0 (gC enR g))) true (Ob.cells true)) (0 : Int))) /\ True) /\ (IsF (Row.mk (List.take 4 (List.drop 0 (gC enR g))) true (Ob.cells true)) 4 (0 : Int) 0 /\ IsZ
  (Row.mk [] false (Ob.cells true)) 0))))) /\ (br (vOk (Row.mk (List.take 4 (List.drop 0 (gC enR g))) true (Ob.cells true)) (0 : Int)) ((((True /\ (True /\ (True /\ True)))
  /\ ((((4 <= List.length (gC enR g) /\ Plain (List.take 4 (List.drop 0 (gC enR g)))) /\ True) /\ ((True /\ True) /\ ((True /\ True) /\ (True /\ (Plain (iCells IntKind.i64
  ([] ++ vNs (Row.mk (List.take 4 (List.drop 0 (gC enR g))) true (Ob.cells true)) (0 : Int))) /\ True))))) /\ ((Plain (iCells IntKind.i64 (dI (Row.mk (iCells IntKind.i64 ([]
  ++ vNs (Row.mk (List.take 4 (List.drop 0 (gC enR g))) true (Ob.cells true)) (0 : Int))) false (Ob.cells true)) ++ vNs (Row.mk (List.take 4 (List.drop 0 (gC enR g))) true
  (Ob.cells true)) (1 : Int))) /\ True) /\ (IsF (Row.mk (List.take 4 (List.drop 0 (gC enR g))) true (Ob.cells true)) 4 (1 : Int) (0 + vLn (Row.mk (List.take 4 (List.drop 0
  (gC enR g))) true (Ob.cells true)) (0 : Int)) /\ IsZ (Row.mk (iCells IntKind.i64 ([] ++ vNs (Row.mk (List.take 4 (List.drop 0 (gC enR g))) true (Ob.cells true)) (0 :
  Int))) false (Ob.cells true)) (0 + vLn (Row.mk (List.take 4 (List.drop 0 (gC enR g))) true (Ob.cells true)) (0 : Int))))))) /\ (br (vOk (Row.mk (List.take 4 (List.drop 0
  (gC enR g))) true (Ob.cells true)) (1 : Int)) ((((True /\ (True /\ (True /\ True))) /\ ((((4 <= List.length (gC enR g) /\ Plain (List.take 4 (List.drop 0 (gC enR g)))) /\
  True) /\ ((True /\ True) /\ ((True /\ True) /\ (True /\ (Plain (iCells IntKind.i64 (dI (Row.mk (iCells IntKind.i64 ([] ++ vNs (Row.mk (List.take 4 (List.drop 0 (gC enR
  g))) true (Ob.cells true)) (0 : Int))) false (Ob.cells true)) ++ vNs (Row.mk (List.take 4 (List.drop 0 (gC enR g))) true (Ob.cells true)) (1 : Int))) /\ True))))) /\
  ((Plain (iCells IntKind.i64 (dI (Row.mk (iCells IntKind.i64 (dI (Row.mk (iCells IntKind.i64 ([] ++ vNs (Row.mk (List.take 4 (List.drop 0 (gC enR g))) true (Ob.cells true))
  (0 : Int))) false (Ob.cells true)) ++ vNs (Row.mk (List.take 4 (List.drop 0 (gC enR g))) true (Ob.cells true)) (1 : Int))) false (Ob.cells true)) ++ vNs (Row.mk (List.take
  4 (List.drop 0 (gC enR g))) true (Ob.cells true)) (2 : Int))) /\ True) /\ (IsF (Row.mk (List.take 4 (List.drop 0 (gC enR g))) true (Ob.cells true)) 4 (2 : Int) (0 + vLn
  (Row.mk (List.take 4 (List.drop 0 (gC enR g))) true (Ob.cells true)) (0 : Int) + vLn (Row.mk (List.take 4 (List.drop 0 (gC enR g))) true (Ob.cells true)) (1 : Int)) /\ IsZ
  (Row.mk (iCells IntKind.i64 (dI (Row.mk (iCells IntKind.i64 ([] ++ vNs (Row.mk (List.take 4 (List.drop 0 (gC enR g))) true (Ob.cells true)) (0 : Int))) false (Ob.cells
  true)) ++ vNs (Row.mk (List.take 4 (List.drop 0 (gC enR g))) true (Ob.cells true)) (1 : Int))) false (Ob.cells true)) (0 + vLn (Row.mk (List.take 4 (List.drop 0 (gC enR
  g))) true (Ob.cells true)) (0 : Int) + vLn (Row.mk (List.take 4 (List.drop 0 (gC enR g))) true (Ob.cells true)) (1 : Int))))))) /\ (br (vOk (Row.mk (List.take 4 (List.drop
  0 (gC enR g))) true (Ob.cells true)) (2 : Int)) ((((True /\ (True /\ (True /\ True))) /\ ((((4 <= List.length (gC enR g) /\ Plain (List.take 4 (List.drop 0 (gC enR g))))
  /\ True) /\ ((True /\ True) /\ ((True /\ True) /\ (True /\ (Plain (iCells IntKind.i64 (dI (Row.mk (iCells IntKind.i64 (dI (Row.mk (iCells IntKind.i64 ([] ++ vNs (Row.mk
  (List.take 4 (List.drop 0 (gC enR g))) true (Ob.cells true)) (0 : Int))) false (Ob.cells true)) ++ vNs (Row.mk (List.take 4 (List.drop 0 (gC enR g))) true (Ob.cells true))
  (1 : Int))) false (Ob.cells true)) ++ vNs (Row.mk (List.take 4 (List.drop 0 (gC enR g))) true (Ob.cells true)) (2 : Int))) /\ True))))) /\ ((Plain (iCells IntKind.i64 (dI
  (Row.mk (iCells IntKind.i64 (dI (Row.mk (iCells IntKind.i64 (dI (Row.mk (iCells IntKind.i64 ([] ++ vNs (Row.mk (List.take 4 (List.drop 0 (gC enR g))) true (Ob.cells true))
  (0 : Int))) false (Ob.cells true)) ++ vNs (Row.mk (List.take 4 (List.drop 0 (gC enR g))) true (Ob.cells true)) (1 : Int))) false (Ob.cells true)) ++ vNs (Row.mk (List.take
  4 (List.drop 0 (gC enR g))) true (Ob.cells true)) (2 : Int))) false (Ob.cells true)) ++ vNs (Row.mk (List.take 4 (List.drop 0 (gC enR g))) true (Ob.cells true)) (3 :
  Int))) /\ True) /\ (IsF (Row.mk (List.take 4 (List.drop 0 (gC enR g))) true (Ob.cells true)) 4 (3 : Int) (0 + vLn (Row.mk (List.take 4 (List.drop 0 (gC enR g))) true
  (Ob.cells true)) (0 : Int) + vLn (Row.mk (List.take 4 (List.drop 0 (gC enR g))) true (Ob.cells true)) (1 : Int) + vLn (Row.mk (List.take 4 (List.drop 0 (gC enR g))) true
  (Ob.cells true)) (2 : Int)) /\ IsZ (Row.mk (iCells IntKind.i64 (dI (Row.mk (iCells IntKind.i64 (dI (Row.mk (iCells IntKind.i64 ([] ++ vNs (Row.mk (List.take 4 (List.drop 0
  (gC enR g))) true (Ob.cells true)) (0 : Int))) false (Ob.cells true)) ++ vNs (Row.mk (List.take 4 (List.drop 0 (gC enR g))) true (Ob.cells true)) (1 : Int))) false
  (Ob.cells true)) ++ vNs (Row.mk (List.take 4 (List.drop 0 (gC enR g))) true (Ob.cells true)) (2 : Int))) false (Ob.cells true)) (0 + vLn (Row.mk (List.take 4 (List.drop 0
  (gC enR g))) true (Ob.cells true)) (0 : Int) + vLn (Row.mk (List.take 4 (List.drop 0 (gC enR g))) true (Ob.cells true)) (1 : Int) + vLn (Row.mk (List.take 4 (List.drop 0
  (gC enR g))) true (Ob.cells true)) (2 : Int))))))) /\ (br (vOk (Row.mk (List.take 4 (List.drop 0 (gC enR g))) true (Ob.cells true)) (3 : Int)) (∃ g2 : GH, ((PH g2) /\ ((0
  = 0) /\ ((List.length g2.2 = List.length y.1) /\ ((0 = 0) /\ ((g2.3 = y.2) /\ ((0 = 0) /\ ((0 = 0) /\ ((0 = 0) /\ ((0 = 0) /\ ((0 = 0) /\ ((g2.8 = true) /\ ((Eq (α := List
  Value) (gC enR g2.1) (gC enR g)) /\ ((Plain (gC enR g2.1)) /\ ((0 = 0) /\ ((List.length g2.7 = 0 + vLn (Row.mk (List.take 4 (List.drop 0 (gC enR g))) true (Ob.cells true))
  (0 : Int) + vLn (Row.mk (List.take 4 (List.drop 0 (gC enR g))) true (Ob.cells true)) (1 : Int) + vLn (Row.mk (List.take 4 (List.drop 0 (gC enR g))) true (Ob.cells true))
  (2 : Int) + vLn (Row.mk (List.take 4 (List.drop 0 (gC enR g))) true (Ob.cells true)) (3 : Int)) /\ ((g2.4 = y.3) /\ ((g2.5 = y.4) /\ ((g2.6 = y.5) /\ ((Eq (α := List
  Value) (iCells IntKind.i64 g2.2) (iCells IntKind.i64 y.1)) /\ ((Plain (iCells IntKind.i64 g2.2)) /\ ((Eq (α := List Value) (iCells IntKind.i64 g2.7) (iCells IntKind.i64
  (dI (Row.mk (iCells IntKind.i64 (dI (Row.mk (iCells IntKind.i64 (dI (Row.mk (iCells IntKind.i64 ([] ++ vNs (Row.mk (List.take 4 (List.drop 0 (gC enR g))) true (Ob.cells
  true)) (0 : Int))) false (Ob.cells true)) ++ vNs (Row.mk (List.take 4 (List.drop 0 (gC enR g))) true (Ob.cells true)) (1 : Int))) false (Ob.cells true)) ++ vNs (Row.mk
  (List.take 4 (List.drop 0 (gC enR g))) true (Ob.cells true)) (2 : Int))) false (Ob.cells true)) ++ vNs (Row.mk (List.take 4 (List.drop 0 (gC enR g))) true (Ob.cells true))
  (3 : Int)))) /\ ((Plain (iCells IntKind.i64 g2.7)) /\ ((g2.12 = (-1 : Int)) /\ ((g2.13 = (0 : Int)) /\ ((g2.14 = (0 : Int)) /\ ((g2.15 = false) /\ ((g2.9 = (0 : Int)) /\
  ((g2.10 = (0 : Int)) /\ ((g2.11 = (0 : Int)) /\ (∀ (y2 : Unit), ((True) → (∃ y3 : Unit, ((True) /\ ((true = true) /\ ((Eq (α := List Value) (gC enR rr) (gC enR g2.1)) /\
  ((Plain (gC enR rr)) /\ True))))))))))))))))))))))))))))))))))))) (br (vRt (Row.mk (List.take 4 (List.drop 0 (gC enR g))) true (Ob.cells true)) (3 : Int)) ((noGo
  (PanicEntry.mk (Value.iface 10 (Value.string dS)) true false :: reps 10 dS (Int.toNat (vDep (Row.mk (List.take 4 (List.drop 0 (gC enR g))) true (Ob.cells true)) (3 :
  Int)))) = true) /\ (∃ g2 : GH, ((PH g2) /\ ((0 = 0) /\ ((List.length g2.2 = List.length y.1) /\ ((0 = 0) /\ ((g2.3 = y.2) /\ ((0 = 0) /\ ((0 = 0) /\ ((0 = 0) /\ ((0 = 0)
  /\ ((0 = 0) /\ ((g2.8 = true) /\ ((Eq (α := List Value) (gC enR g2.1) (gC enR g)) /\ ((Plain (gC enR g2.1)) /\ ((0 = 0) /\ ((List.length g2.7 = 0 + vLn (Row.mk (List.take
  4 (List.drop 0 (gC enR g))) true (Ob.cells true)) (0 : Int) + vLn (Row.mk (List.take 4 (List.drop 0 (gC enR g))) true (Ob.cells true)) (1 : Int) + vLn (Row.mk (List.take 4
  (List.drop 0 (gC enR g))) true (Ob.cells true)) (2 : Int) + vLn (Row.mk (List.take 4 (List.drop 0 (gC enR g))) true (Ob.cells true)) (3 : Int)) /\ ((g2.4 = y.3) /\ ((g2.5
  = y.4) /\ ((g2.6 = y.5) /\ ((Eq (α := List Value) (iCells IntKind.i64 g2.2) (iCells IntKind.i64 y.1)) /\ ((Plain (iCells IntKind.i64 g2.2)) /\ ((Eq (α := List Value)
  (iCells IntKind.i64 g2.7) (iCells IntKind.i64 (dI (Row.mk (iCells IntKind.i64 (dI (Row.mk (iCells IntKind.i64 (dI (Row.mk (iCells IntKind.i64 ([] ++ vNs (Row.mk (List.take
  4 (List.drop 0 (gC enR g))) true (Ob.cells true)) (0 : Int))) false (Ob.cells true)) ++ vNs (Row.mk (List.take 4 (List.drop 0 (gC enR g))) true (Ob.cells true)) (1 :
  Int))) false (Ob.cells true)) ++ vNs (Row.mk (List.take 4 (List.drop 0 (gC enR g))) true (Ob.cells true)) (2 : Int))) false (Ob.cells true)) ++ vNs (Row.mk (List.take 4
  (List.drop 0 (gC enR g))) true (Ob.cells true)) (3 : Int)))) /\ ((Plain (iCells IntKind.i64 g2.7)) /\ ((g2.12 = (-2 : Int)) /\ ((g2.13 = (0 : Int)) /\ ((g2.14 = (0 : Int))
  /\ ((g2.15 = false) /\ ((g2.9 = (2 : Int)) /\ ((g2.10 = (0 : Int)) /\ ((g2.11 = (0 : Int)) /\ (∀ (y2 : Unit), ((True) → (∃ y3 : Unit, ((True) /\ ((true = true) /\ ((Eq (α
  := List Value) (gC enR rr) (gC enR g2.1)) /\ ((Plain (gC enR rr)) /\ True)))))))))))))))))))))))))))))))))))))) ((true = true) /\ ((Value.agg (Array.mk [Value.int
  IntKind.i64 (vCode (Row.mk (List.take 4 (List.drop 0 (gC enR g))) true (Ob.cells true)) (3 : Int)), Value.int IntKind.i64 (vPos (Row.mk (List.take 4 (List.drop 0 (gC enR
  g))) true (Ob.cells true)) (3 : Int))]) = Value.agg (Array.mk [Value.int IntKind.i64 (vCode (Row.mk (List.take 4 (List.drop 0 (gC enR g))) true (Ob.cells true)) (3 :
  Int)), Value.int IntKind.i64 (vPos (Row.mk (List.take 4 (List.drop 0 (gC enR g))) true (Ob.cells true)) (3 : Int))])) /\ (∃ g2 : GH, ((PH g2) /\ ((0 = 0) /\ ((List.length
  g2.2 = List.length y.1) /\ ((0 = 0) /\ ((g2.3 = y.2) /\ ((0 = 0) /\ ((0 = 0) /\ ((0 = 0) /\ ((0 = 0) /\ ((0 = 0) /\ ((g2.8 = true) /\ ((Eq (α := List Value) (gC enR g2.1)
  (gC enR g)) /\ ((Plain (gC enR g2.1)) /\ ((0 = 0) /\ ((List.length g2.7 = 0 + vLn (Row.mk (List.take 4 (List.drop 0 (gC enR g))) true (Ob.cells true)) (0 : Int) + vLn
  (Row.mk (List.take 4 (List.drop 0 (gC enR g))) true (Ob.cells true)) (1 : Int) + vLn (Row.mk (List.take 4 (List.drop 0 (gC enR g))) true (Ob.cells true)) (2 : Int) + vLn
  (Row.mk (List.take 4 (List.drop 0 (gC enR g))) true (Ob.cells true)) (3 : Int)) /\ ((g2.4 = y.3) /\ ((g2.5 = y.4) /\ ((g2.6 = y.5) /\ ((Eq (α := List Value) (iCells
  IntKind.i64 g2.2) (iCells IntKind.i64 y.1)) /\ ((Plain (iCells IntKind.i64 g2.2)) /\ ((Eq (α := List Value) (iCells IntKind.i64 g2.7) (iCells IntKind.i64 (dI (Row.mk
  (iCells IntKind.i64 (dI (Row.mk (iCells IntKind.i64 (dI (Row.mk (iCells IntKind.i64 ([] ++ vNs (Row.mk (List.take 4 (List.drop 0 (gC enR g))) true (Ob.cells true)) (0 :
  Int))) false (Ob.cells true)) ++ vNs (Row.mk (List.take 4 (List.drop 0 (gC enR g))) true (Ob.cells true)) (1 : Int))) false (Ob.cells true)) ++ vNs (Row.mk (List.take 4
  (List.drop 0 (gC enR g))) true (Ob.cells true)) (2 : Int))) false (Ob.cells true)) ++ vNs (Row.mk (List.take 4 (List.drop 0 (gC enR g))) true (Ob.cells true)) (3 : Int))))
  /\ ((Plain (iCells IntKind.i64 g2.7)) /\ ((g2.12 = (3 : Int)) /\ ((g2.13 = vCode (Row.mk (List.take 4 (List.drop 0 (gC enR g))) true (Ob.cells true)) (3 : Int)) /\ ((g2.14
  = vPos (Row.mk (List.take 4 (List.drop 0 (gC enR g))) true (Ob.cells true)) (3 : Int)) /\ ((g2.15 = true) /\ ((g2.9 = (0 : Int)) /\ ((g2.10 = (0 : Int)) /\ ((g2.11 = (0 :
  Int)) /\ (∀ (y2 : Unit), ((True) → (∃ y3 : Unit, ((True) /\ ((true = true) /\ ((Eq (α := List Value) (gC enR rr) (gC enR g2.1)) /\ ((Plain (gC enR rr)) /\
  True)))))))))))))))))))))))))))))))))))))))))) (br (vRt (Row.mk (List.take 4 (List.drop 0 (gC enR g))) true (Ob.cells true)) (2 : Int)) ((noGo (PanicEntry.mk (Value.iface
  10 (Value.string dS)) true false :: reps 10 dS (Int.toNat (vDep (Row.mk (List.take 4 (List.drop 0 (gC enR g))) true (Ob.cells true)) (2 : Int)))) = true) /\ (∃ g2 : GH,
  ((PH g2) /\ ((0 = 0) /\ ((List.length g2.2 = List.length y.1) /\ ((0 = 0) /\ ((g2.3 = y.2) /\ ((0 = 0) /\ ((0 = 0) /\ ((0 = 0) /\ ((0 = 0) /\ ((0 = 0) /\ ((g2.8 = true) /\
  ((Eq (α := List Value) (gC enR g2.1) (gC enR g)) /\ ((Plain (gC enR g2.1)) /\ ((0 = 0) /\ ((List.length g2.7 = 0 + vLn (Row.mk (List.take 4 (List.drop 0 (gC enR g))) true
  (Ob.cells true)) (0 : Int) + vLn (Row.mk (List.take 4 (List.drop 0 (gC enR g))) true (Ob.cells true)) (1 : Int) + vLn (Row.mk (List.take 4 (List.drop 0 (gC enR g))) true
  (Ob.cells true)) (2 : Int)) /\ ((g2.4 = y.3) /\ ((g2.5 = y.4) /\ ((g2.6 = y.5) /\ ((Eq (α := List Value) (iCells IntKind.i64 g2.2) (iCells IntKind.i64 y.1)) /\ ((Plain
  (iCells IntKind.i64 g2.2)) /\ ((Eq (α := List Value) (iCells IntKind.i64 g2.7) (iCells IntKind.i64 (dI (Row.mk (iCells IntKind.i64 (dI (Row.mk (iCells IntKind.i64 ([] ++
  vNs (Row.mk (List.take 4 (List.drop 0 (gC enR g))) true (Ob.cells true)) (0 : Int))) false (Ob.cells true)) ++ vNs (Row.mk (List.take 4 (List.drop 0 (gC enR g))) true
  (Ob.cells true)) (1 : Int))) false (Ob.cells true)) ++ vNs (Row.mk (List.take 4 (List.drop 0 (gC enR g))) true (Ob.cells true)) (2 : Int)))) /\ ((Plain (iCells IntKind.i64
  g2.7)) /\ ((g2.12 = (-2 : Int)) /\ ((g2.13 = (0 : Int)) /\ ((g2.14 = (0 : Int)) /\ ((g2.15 = false) /\ ((g2.9 = (2 : Int)) /\ ((g2.10 = (0 : Int)) /\ ((g2.11 = (0 : Int))
  /\ (∀ (y2 : Unit), ((True) → (∃ y3 : Unit, ((True) /\ ((true = true) /\ ((Eq (α := List Value) (gC enR rr) (gC enR g2.1)) /\ ((Plain (gC enR rr)) /\
  True)))))))))))))))))))))))))))))))))))))) ((true = true) /\ ((Value.agg (Array.mk [Value.int IntKind.i64 (vCode (Row.mk (List.take 4 (List.drop 0 (gC enR g))) true
  (Ob.cells true)) (2 : Int)), Value.int IntKind.i64 (vPos (Row.mk (List.take 4 (List.drop 0 (gC enR g))) true (Ob.cells true)) (2 : Int))]) = Value.agg (Array.mk [Value.int
  IntKind.i64 (vCode (Row.mk (List.take 4 (List.drop 0 (gC enR g))) true (Ob.cells true)) (2 : Int)), Value.int IntKind.i64 (vPos (Row.mk (List.take 4 (List.drop 0 (gC enR
  g))) true (Ob.cells true)) (2 : Int))])) /\ (∃ g2 : GH, ((PH g2) /\ ((0 = 0) /\ ((List.length g2.2 = List.length y.1) /\ ((0 = 0) /\ ((g2.3 = y.2) /\ ((0 = 0) /\ ((0 = 0)
  /\ ((0 = 0) /\ ((0 = 0) /\ ((0 = 0) /\ ((g2.8 = true) /\ ((Eq (α := List Value) (gC enR g2.1) (gC enR g)) /\ ((Plain (gC enR g2.1)) /\ ((0 = 0) /\ ((List.length g2.7 = 0 +
  vLn (Row.mk (List.take 4 (List.drop 0 (gC enR g))) true (Ob.cells true)) (0 : Int) + vLn (Row.mk (List.take 4 (List.drop 0 (gC enR g))) true (Ob.cells true)) (1 : Int) +
  vLn (Row.mk (List.take 4 (List.drop 0 (gC enR g))) true (Ob.cells true)) (2 : Int)) /\ ((g2.4 = y.3) /\ ((g2.5 = y.4) /\ ((g2.6 = y.5) /\ ((Eq (α := List Value) (iCells
  IntKind.i64 g2.2) (iCells IntKind.i64 y.1)) /\ ((Plain (iCells IntKind.i64 g2.2)) /\ ((Eq (α := List Value) (iCells IntKind.i64 g2.7) (iCells IntKind.i64 (dI (Row.mk
  (iCells IntKind.i64 (dI (Row.mk (iCells IntKind.i64 ([] ++ vNs (Row.mk (List.take 4 (List.drop 0 (gC enR g))) true (Ob.cells true)) (0 : Int))) false (Ob.cells true)) ++
  vNs (Row.mk (List.take 4 (List.drop 0 (gC enR g))) true (Ob.cells true)) (1 : Int))) false (Ob.cells true)) ++ vNs (Row.mk (List.take 4 (List.drop 0 (gC enR g))) true
  (Ob.cells true)) (2 : Int)))) /\ ((Plain (iCells IntKind.i64 g2.7)) /\ ((g2.12 = (2 : Int)) /\ ((g2.13 = vCode (Row.mk (List.take 4 (List.drop 0 (gC enR g))) true
  (Ob.cells true)) (2 : Int)) /\ ((g2.14 = vPos (Row.mk (List.take 4 (List.drop 0 (gC enR g))) true (Ob.cells true)) (2 : Int)) /\ ((g2.15 = true) /\ ((g2.9 = (0 : Int)) /\
  ((g2.10 = (0 : Int)) /\ ((g2.11 = (0 : Int)) /\ (∀ (y2 : Unit), ((True) → (∃ y3 : Unit, ((True) /\ ((true = true) /\ ((Eq (α := List Value) (gC enR rr) (gC enR g2.1)) /\
  ((Plain (gC enR rr)) /\ True)))))))))))))))))))))))))))))))))))))))))) (br (vRt (Row.mk (List.take 4 (List.drop 0 (gC enR g))) true (Ob.cells true)) (1 : Int)) ((noGo
  (PanicEntry.mk (Value.iface 10 (Value.string dS)) true false :: reps 10 dS (Int.toNat (vDep (Row.mk (List.take 4 (List.drop 0 (gC enR g))) true (Ob.cells true)) (1 :
  Int)))) = true) /\ (∃ g2 : GH, ((PH g2) /\ ((0 = 0) /\ ((List.length g2.2 = List.length y.1) /\ ((0 = 0) /\ ((g2.3 = y.2) /\ ((0 = 0) /\ ((0 = 0) /\ ((0 = 0) /\ ((0 = 0)
  /\ ((0 = 0) /\ ((g2.8 = true) /\ ((Eq (α := List Value) (gC enR g2.1) (gC enR g)) /\ ((Plain (gC enR g2.1)) /\ ((0 = 0) /\ ((List.length g2.7 = 0 + vLn (Row.mk (List.take
  4 (List.drop 0 (gC enR g))) true (Ob.cells true)) (0 : Int) + vLn (Row.mk (List.take 4 (List.drop 0 (gC enR g))) true (Ob.cells true)) (1 : Int)) /\ ((g2.4 = y.3) /\
  ((g2.5 = y.4) /\ ((g2.6 = y.5) /\ ((Eq (α := List Value) (iCells IntKind.i64 g2.2) (iCells IntKind.i64 y.1)) /\ ((Plain (iCells IntKind.i64 g2.2)) /\ ((Eq (α := List
  Value) (iCells IntKind.i64 g2.7) (iCells IntKind.i64 (dI (Row.mk (iCells IntKind.i64 ([] ++ vNs (Row.mk (List.take 4 (List.drop 0 (gC enR g))) true (Ob.cells true)) (0 :
  Int))) false (Ob.cells true)) ++ vNs (Row.mk (List.take 4 (List.drop 0 (gC enR g))) true (Ob.cells true)) (1 : Int)))) /\ ((Plain (iCells IntKind.i64 g2.7)) /\ ((g2.12 =
  (-2 : Int)) /\ ((g2.13 = (0 : Int)) /\ ((g2.14 = (0 : Int)) /\ ((g2.15 = false) /\ ((g2.9 = (2 : Int)) /\ ((g2.10 = (0 : Int)) /\ ((g2.11 = (0 : Int)) /\ (∀ (y2 : Unit),
  ((True) → (∃ y3 : Unit, ((True) /\ ((true = true) /\ ((Eq (α := List Value) (gC enR rr) (gC enR g2.1)) /\ ((Plain (gC enR rr)) /\
  True)))))))))))))))))))))))))))))))))))))) ((true = true) /\ ((Value.agg (Array.mk [Value.int IntKind.i64 (vCode (Row.mk (List.take 4 (List.drop 0 (gC enR g))) true
  (Ob.cells true)) (1 : Int)), Value.int IntKind.i64 (vPos (Row.mk (List.take 4 (List.drop 0 (gC enR g))) true (Ob.cells true)) (1 : Int))]) = Value.agg (Array.mk [Value.int
  IntKind.i64 (vCode (Row.mk (List.take 4 (List.drop 0 (gC enR g))) true (Ob.cells true)) (1 : Int)), Value.int IntKind.i64 (vPos (Row.mk (List.take 4 (List.drop 0 (gC enR
  g))) true (Ob.cells true)) (1 : Int))])) /\ (∃ g2 : GH, ((PH g2) /\ ((0 = 0) /\ ((List.length g2.2 = List.length y.1) /\ ((0 = 0) /\ ((g2.3 = y.2) /\ ((0 = 0) /\ ((0 = 0)
  /\ ((0 = 0) /\ ((0 = 0) /\ ((0 = 0) /\ ((g2.8 = true) /\ ((Eq (α := List Value) (gC enR g2.1) (gC enR g)) /\ ((Plain (gC enR g2.1)) /\ ((0 = 0) /\ ((List.length g2.7 = 0 +
  vLn (Row.mk (List.take 4 (List.drop 0 (gC enR g))) true (Ob.cells true)) (0 : Int) + vLn (Row.mk (List.take 4 (List.drop 0 (gC enR g))) true (Ob.cells true)) (1 : Int)) /\
  ((g2.4 = y.3) /\ ((g2.5 = y.4) /\ ((g2.6 = y.5) /\ ((Eq (α := List Value) (iCells IntKind.i64 g2.2) (iCells IntKind.i64 y.1)) /\ ((Plain (iCells IntKind.i64 g2.2)) /\ ((Eq
  (α := List Value) (iCells IntKind.i64 g2.7) (iCells IntKind.i64 (dI (Row.mk (iCells IntKind.i64 ([] ++ vNs (Row.mk (List.take 4 (List.drop 0 (gC enR g))) true (Ob.cells
  true)) (0 : Int))) false (Ob.cells true)) ++ vNs (Row.mk (List.take 4 (List.drop 0 (gC enR g))) true (Ob.cells true)) (1 : Int)))) /\ ((Plain (iCells IntKind.i64 g2.7)) /\
  ((g2.12 = (1 : Int)) /\ ((g2.13 = vCode (Row.mk (List.take 4 (List.drop 0 (gC enR g))) true (Ob.cells true)) (1 : Int)) /\ ((g2.14 = vPos (Row.mk (List.take 4 (List.drop 0
  (gC enR g))) true (Ob.cells true)) (1 : Int)) /\ ((g2.15 = true) /\ ((g2.9 = (0 : Int)) /\ ((g2.10 = (0 : Int)) /\ ((g2.11 = (0 : Int)) /\ (∀ (y2 : Unit), ((True) → (∃ y3
  : Unit, ((True) /\ ((true = true) /\ ((Eq (α := List Value) (gC enR rr) (gC enR g2.1)) /\ ((Plain (gC enR rr)) /\ True)))))))))))))))))))))))))))))))))))))))))) (br (vRt
  (Row.mk (List.take 4 (List.drop 0 (gC enR g))) true (Ob.cells true)) (0 : Int)) ((noGo (PanicEntry.mk (Value.iface 10 (Value.string dS)) true false :: reps 10 dS
  (Int.toNat (vDep (Row.mk (List.take 4 (List.drop 0 (gC enR g))) true (Ob.cells true)) (0 : Int)))) = true) /\ (∃ g2 : GH, ((PH g2) /\ ((0 = 0) /\ ((List.length g2.2 =
  List.length y.1) /\ ((0 = 0) /\ ((g2.3 = y.2) /\ ((0 = 0) /\ ((0 = 0) /\ ((0 = 0) /\ ((0 = 0) /\ ((0 = 0) /\ ((g2.8 = true) /\ ((Eq (α := List Value) (gC enR g2.1) (gC enR
  g)) /\ ((Plain (gC enR g2.1)) /\ ((0 = 0) /\ ((List.length g2.7 = 0 + vLn (Row.mk (List.take 4 (List.drop 0 (gC enR g))) true (Ob.cells true)) (0 : Int)) /\ ((g2.4 = y.3)
  /\ ((g2.5 = y.4) /\ ((g2.6 = y.5) /\ ((Eq (α := List Value) (iCells IntKind.i64 g2.2) (iCells IntKind.i64 y.1)) /\ ((Plain (iCells IntKind.i64 g2.2)) /\ ((Eq (α := List
  Value) (iCells IntKind.i64 g2.7) (iCells IntKind.i64 ([] ++ vNs (Row.mk (List.take 4 (List.drop 0 (gC enR g))) true (Ob.cells true)) (0 : Int)))) /\ ((Plain (iCells
  IntKind.i64 g2.7)) /\ ((g2.12 = (-2 : Int)) /\ ((g2.13 = (0 : Int)) /\ ((g2.14 = (0 : Int)) /\ ((g2.15 = false) /\ ((g2.9 = (2 : Int)) /\ ((g2.10 = (0 : Int)) /\ ((g2.11 =
  (0 : Int)) /\ (∀ (y2 : Unit), ((True) → (∃ y3 : Unit, ((True) /\ ((true = true) /\ ((Eq (α := List Value) (gC enR rr) (gC enR g2.1)) /\ ((Plain (gC enR rr)) /\
  True)))))))))))))))))))))))))))))))))))))) ((true = true) /\ ((Value.agg (Array.mk [Value.int IntKind.i64 (vCode (Row.mk (List.take 4 (List.drop 0 (gC enR g))) true
  (Ob.cells true)) (0 : Int)), Value.int IntKind.i64 (vPos (Row.mk (List.take 4 (List.drop 0 (gC enR g))) true (Ob.cells true)) (0 : Int))]) = Value.agg (Array.mk [Value.int
  IntKind.i64 (vCode (Row.mk (List.take 4 (List.drop 0 (gC enR g))) true (Ob.cells true)) (0 : Int)), Value.int IntKind.i64 (vPos (Row.mk (List.take 4 (List.drop 0 (gC enR
  g))) true (Ob.cells true)) (0 : Int))])) /\ (∃ g2 : GH, ((PH g2) /\ ((0 = 0) /\ ((List.length g2.2 = List.length y.1) /\ ((0 = 0) /\ ((g2.3 = y.2) /\ ((0 = 0) /\ ((0 = 0)
  /\ ((0 = 0) /\ ((0 = 0) /\ ((0 = 0) /\ ((g2.8 = true) /\ ((Eq (α := List Value) (gC enR g2.1) (gC enR g)) /\ ((Plain (gC enR g2.1)) /\ ((0 = 0) /\ ((List.length g2.7 = 0 +
  vLn (Row.mk (List.take 4 (List.drop 0 (gC enR g))) true (Ob.cells true)) (0 : Int)) /\ ((g2.4 = y.3) /\ ((g2.5 = y.4) /\ ((g2.6 = y.5) /\ ((Eq (α := List Value) (iCells
  IntKind.i64 g2.2) (iCells IntKind.i64 y.1)) /\ ((Plain (iCells IntKind.i64 g2.2)) /\ ((Eq (α := List Value) (iCells IntKind.i64 g2.7) (iCells IntKind.i64 ([] ++ vNs
  (Row.mk (List.take 4 (List.drop 0 (gC enR g))) true (Ob.cells true)) (0 : Int)))) /\ ((Plain (iCells IntKind.i64 g2.7)) /\ ((g2.12 = (0 : Int)) /\ ((g2.13 = vCode (Row.mk
  (List.take 4 (List.drop 0 (gC enR g))) true (Ob.cells true)) (0 : Int)) /\ ((g2.14 = vPos (Row.mk (List.take 4 (List.drop 0 (gC enR g))) true (Ob.cells true)) (0 : Int))
  /\ ((g2.15 = true) /\ ((g2.9 = (0 : Int)) /\ ((g2.10 = (0 : Int)) /\ ((g2.11 = (0 : Int)) /\ (∀ (y2 : Unit), ((True) → (∃ y3 : Unit, ((True) /\ ((true = true) /\ ((Eq (α
  := List Value) (gC enR rr) (gC enR g2.1)) /\ ((Plain (gC enR rr)) /\ True)))))))))))))))))))))))))))))))))))))))))))))))))))))))))))) := by kernel_rfl
set_option maxHeartbeats 4000000 in
theorem G5_vc (rr : List (List Ac)) : mlG rr 5 (Sy.endsIn 1 130 (wsG rr)) =
  (∃ g : List (List Ac), ((PF (GF.mk g 5)) /\ ((0 = 0) /\ ((0 = 0) /\ ((0 = 0) /\ (((-1 : Int) = (-1 : Int)) /\ ((0 = 0) /\ (((0 : Int) = (0 : Int)) /\ ((Eq (α := List
  Value) (gC enR g) (gC enR rr)) /\ ((Plain (gC enR g)) /\ ((0 = 0) /\ ((5 = 5) /\ (((0 : Int) = (0 : Int)) /\ (((0 : Int) = (0 : Int)) /\ (((0 : Int) = (0 : Int)) /\ ((Eq
  (α := List Value) ([]) ([])) /\ (∀ (y : FR), ((y = ftl (subs (GF.mk g 5)) 0) → ((((True /\ (True /\ (True /\ True))) /\ ((((5 <= List.length (gC enR g) /\ Plain (List.take
  5 (List.drop 0 (gC enR g)))) /\ True) /\ ((True /\ True) /\ ((True /\ True) /\ (True /\ (Plain [] /\ True))))) /\ ((Plain (iCells IntKind.i64 ([] ++ vNs (Row.mk (List.take
  5 (List.drop 0 (gC enR g))) true (Ob.cells true)) (0 : Int))) /\ True) /\ (IsF (Row.mk (List.take 5 (List.drop 0 (gC enR g))) true (Ob.cells true)) 5 (0 : Int) 0 /\ IsZ
  (Row.mk [] false (Ob.cells true)) 0))))) /\ (br (vOk (Row.mk (List.take 5 (List.drop 0 (gC enR g))) true (Ob.cells true)) (0 : Int)) ((((True /\ (True /\ (True /\ True)))
  /\ ((((5 <= List.length (gC enR g) /\ Plain (List.take 5 (List.drop 0 (gC enR g)))) /\ True) /\ ((True /\ True) /\ ((True /\ True) /\ (True /\ (Plain (iCells IntKind.i64
  ([] ++ vNs (Row.mk (List.take 5 (List.drop 0 (gC enR g))) true (Ob.cells true)) (0 : Int))) /\ True))))) /\ ((Plain (iCells IntKind.i64 (dI (Row.mk (iCells IntKind.i64 ([]
  ++ vNs (Row.mk (List.take 5 (List.drop 0 (gC enR g))) true (Ob.cells true)) (0 : Int))) false (Ob.cells true)) ++ vNs (Row.mk (List.take 5 (List.drop 0 (gC enR g))) true
  (Ob.cells true)) (1 : Int))) /\ True) /\ (IsF (Row.mk (List.take 5 (List.drop 0 (gC enR g))) true (Ob.cells true)) 5 (1 : Int) (0 + vLn (Row.mk (List.take 5 (List.drop 0
  (gC enR g))) true (Ob.cells true)) (0 : Int)) /\ IsZ (Row.mk (iCells IntKind.i64 ([] ++ vNs (Row.mk (List.take 5 (List.drop 0 (gC enR g))) true (Ob.cells true)) (0 :
  Int))) false (Ob.cells true)) (0 + vLn (Row.mk (List.take 5 (List.drop 0 (gC enR g))) true (Ob.cells true)) (0 : Int))))))) /\ (br (vOk (Row.mk (List.take 5 (List.drop 0
  (gC enR g))) true (Ob.cells true)) (1 : Int)) ((((True /\ (True /\ (True /\ True))) /\ ((((5 <= List.length (gC enR g) /\ Plain (List.take 5 (List.drop 0 (gC enR g)))) /\
  True) /\ ((True /\ True) /\ ((True /\ True) /\ (True /\ (Plain (iCells IntKind.i64 (dI (Row.mk (iCells IntKind.i64 ([] ++ vNs (Row.mk (List.take 5 (List.drop 0 (gC enR
  g))) true (Ob.cells true)) (0 : Int))) false (Ob.cells true)) ++ vNs (Row.mk (List.take 5 (List.drop 0 (gC enR g))) true (Ob.cells true)) (1 : Int))) /\ True))))) /\
  ((Plain (iCells IntKind.i64 (dI (Row.mk (iCells IntKind.i64 (dI (Row.mk (iCells IntKind.i64 ([] ++ vNs (Row.mk (List.take 5 (List.drop 0 (gC enR g))) true (Ob.cells true))
  (0 : Int))) false (Ob.cells true)) ++ vNs (Row.mk (List.take 5 (List.drop 0 (gC enR g))) true (Ob.cells true)) (1 : Int))) false (Ob.cells true)) ++ vNs (Row.mk (List.take
  5 (List.drop 0 (gC enR g))) true (Ob.cells true)) (2 : Int))) /\ True) /\ (IsF (Row.mk (List.take 5 (List.drop 0 (gC enR g))) true (Ob.cells true)) 5 (2 : Int) (0 + vLn
  (Row.mk (List.take 5 (List.drop 0 (gC enR g))) true (Ob.cells true)) (0 : Int) + vLn (Row.mk (List.take 5 (List.drop 0 (gC enR g))) true (Ob.cells true)) (1 : Int)) /\ IsZ
  (Row.mk (iCells IntKind.i64 (dI (Row.mk (iCells IntKind.i64 ([] ++ vNs (Row.mk (List.take 5 (List.drop 0 (gC enR g))) true (Ob.cells true)) (0 : Int))) false (Ob.cells
  true)) ++ vNs (Row.mk (List.take 5 (List.drop 0 (gC enR g))) true (Ob.cells true)) (1 : Int))) false (Ob.cells true)) (0 + vLn (Row.mk (List.take 5 (List.drop 0 (gC enR
  g))) true (Ob.cells true)) (0 : Int) + vLn (Row.mk (List.take 5 (List.drop 0 (gC enR g))) true (Ob.cells true)) (1 : Int))))))) /\ (br (vOk (Row.mk (List.take 5 (List.drop
  0 (gC enR g))) true (Ob.cells true)) (2 : Int)) ((((True /\ (True /\ (True /\ True))) /\ ((((5 <= List.length (gC enR g) /\ Plain (List.take 5 (List.drop 0 (gC enR g))))
  /\ True) /\ ((True /\ True) /\ ((True /\ True) /\ (True /\ (Plain (iCells IntKind.i64 (dI (Row.mk (iCells IntKind.i64 (dI (Row.mk (iCells IntKind.i64 ([] ++ vNs (Row.mk
  (List.take 5 (List.drop 0 (gC enR g))) true (Ob.cells true)) (0 : Int))) false (Ob.cells true)) ++ vNs (Row.mk (List.take 5 (List.drop 0 (gC enR g))) true (Ob.cells true))
  (1 : Int))) false (Ob.cells true)) ++ vNs (Row.mk (List.take 5 (List.drop 0 (gC enR g))) true (Ob.cells true)) (2 : Int))) /\ True))))) /\ ((Plain (iCells IntKind.i64 (dI
  (Row.mk (iCells IntKind.i64 (dI (Row.mk (iCells IntKind.i64 (dI (Row.mk (iCells IntKind.i64 ([] ++ vNs (Row.mk (List.take 5 (List.drop 0 (gC enR g))) true (Ob.cells true))
  (0 : Int))) false (Ob.cells true)) ++ vNs (Row.mk (List.take 5 (List.drop 0 (gC enR g))) true (Ob.cells true)) (1 : Int))) false (Ob.cells true)) ++ vNs (Row.mk (List.take
  5 (List.drop 0 (gC enR g))) true (Ob.cells true)) (2 : Int))) false (Ob.cells true)) ++ vNs (Row.mk (List.take 5 (List.drop 0 (gC enR g))) true (Ob.cells true)) (3 :
  Int))) /\ True) /\ (IsF (Row.mk (List.take 5 (List.drop 0 (gC enR g))) true (Ob.cells true)) 5 (3 : Int) (0 + vLn (Row.mk (List.take 5 (List.drop 0 (gC enR g))) true
  (Ob.cells true)) (0 : Int) + vLn (Row.mk (List.take 5 (List.drop 0 (gC enR g))) true (Ob.cells true)) (1 : Int) + vLn (Row.mk (List.take 5 (List.drop 0 (gC enR g))) true
  (Ob.cells true)) (2 : Int)) /\ IsZ (Row.mk (iCells IntKind.i64 (dI (Row.mk (iCells IntKind.i64 (dI (Row.mk (iCells IntKind.i64 ([] ++ vNs (Row.mk (List.take 5 (List.drop 0
  (gC enR g))) true (Ob.cells true)) (0 : Int))) false (Ob.cells true)) ++ vNs (Row.mk (List.take 5 (List.drop 0 (gC enR g))) true (Ob.cells true)) (1 : Int))) false
  (Ob.cells true)) ++ vNs (Row.mk (List.take 5 (List.drop 0 (gC enR g))) true (Ob.cells true)) (2 : Int))) false (Ob.cells true)) (0 + vLn (Row.mk (List.take 5 (List.drop 0
  (gC enR g))) true (Ob.cells true)) (0 : Int) + vLn (Row.mk (List.take 5 (List.drop 0 (gC enR g))) true (Ob.cells true)) (1 : Int) + vLn (Row.mk (List.take 5 (List.drop 0
  (gC enR g))) true (Ob.cells true)) (2 : Int))))))) /\ (br (vOk (Row.mk (List.take 5 (List.drop 0 (gC enR g))) true (Ob.cells true)) (3 : Int)) ((((True /\ (True /\ (True
  /\ True))) /\ ((((5 <= List.length (gC enR g) /\ Plain (List.take 5 (List.drop 0 (gC enR g)))) /\ True) /\ ((True /\ True) /\ ((True /\ True) /\ (True /\ (Plain (iCells
  IntKind.i64 (dI (Row.mk (iCells IntKind.i64 (dI (Row.mk (iCells IntKind.i64 (dI (Row.mk (iCells IntKind.i64 ([] ++ vNs (Row.mk (List.take 5 (List.drop 0 (gC enR g))) true
  (Ob.cells true)) (0 : Int))) false (Ob.cells true)) ++ vNs (Row.mk (List.take 5 (List.drop 0 (gC enR g))) true (Ob.cells true)) (1 : Int))) false (Ob.cells true)) ++ vNs
  (Row.mk (List.take 5 (List.drop 0 (gC enR g))) true (Ob.cells true)) (2 : Int))) false (Ob.cells true)) ++ vNs (Row.mk (List.take 5 (List.drop 0 (gC enR g))) true
  (Ob.cells true)) (3 : Int))) /\ True))))) /\ ((Plain (iCells IntKind.i64 (dI (Row.mk (iCells IntKind.i64 (dI (Row.mk (iCells IntKind.i64 (dI (Row.mk (iCells IntKind.i64
  (dI (Row.mk (iCells IntKind.i64 ([] ++ vNs (Row.mk (List.take 5 (List.drop 0 (gC enR g))) true (Ob.cells true)) (0 : Int))) false (Ob.cells true)) ++ vNs (Row.mk
  (List.take 5 (List.drop 0 (gC enR g))) true (Ob.cells true)) (1 : Int))) false (Ob.cells true)) ++ vNs (Row.mk (List.take 5 (List.drop 0 (gC enR g))) true (Ob.cells true))
  (2 : Int))) false (Ob.cells true)) ++ vNs (Row.mk (List.take 5 (List.drop 0 (gC enR g))) true (Ob.cells true)) (3 : Int))) false (Ob.cells true)) ++ vNs (Row.mk (List.take
  5 (List.drop 0 (gC enR g))) true (Ob.cells true)) (4 : Int))) /\ True) /\ (IsF (Row.mk (List.take 5 (List.drop 0 (gC enR g))) true (Ob.cells true)) 5 (4 : Int) (0 + vLn
  (Row.mk (List.take 5 (List.drop 0 (gC enR g))) true (Ob.cells true)) (0 : Int) + vLn (Row.mk (List.take 5 (List.drop 0 (gC enR g))) true (Ob.cells true)) (1 : Int) + vLn
  (Row.mk (List.take 5 (List.drop 0 (gC enR g))) true (Ob.cells true)) (2 : Int) + vLn (Row.mk (List.take 5 (List.drop 0 (gC enR g))) true (Ob.cells true)) (3 : Int)) /\ IsZ
  (Row.mk (iCells IntKind.i64 (dI (Row.mk (iCells IntKind.i64 (dI (Row.mk (iCells IntKind.i64 (dI (Row.mk (iCells IntKind.i64 ([] ++ vNs (Row.mk (List.take 5 (List.drop 0
  (gC enR g))) true (Ob.cells true)) (0 : Int))) false (Ob.cells true)) ++ vNs (Row.mk (List.take 5 (List.drop 0 (gC enR g))) true (Ob.cells true)) (1 : Int))) false
  (Ob.cells true)) ++ vNs (Row.mk (List.take 5 (List.drop 0 (gC enR g))) true (Ob.cells true)) (2 : Int))) false (Ob.cells true)) ++ vNs (Row.mk (List.take 5 (List.drop 0
  (gC enR g))) true (Ob.cells true)) (3 : Int))) false (Ob.cells true)) (0 + vLn (Row.mk (List.take 5 (List.drop 0 (gC enR g))) true (Ob.cells true)) (0 : Int) + vLn (Row.mk
  (List.take 5 (List.drop 0 (gC enR g))) true (Ob.cells true)) (1 : Int) + vLn (Row.mk (List.take 5 (List.drop 0 (gC enR g))) true (Ob.cells true)) (2 : Int) + vLn (Row.mk
  (List.take 5 (List.drop 0 (gC enR g))) true (Ob.cells true)) (3 : Int))))))) /\ (br (vOk (Row.mk (List.take 5 (List.drop 0 (gC enR g))) true (Ob.cells true)) (4 : Int)) (∃
  g2 : GH, ((PH g2) /\ ((0 = 0) /\ ((List.length g2.2 = List.length y.1) /\ ((0 = 0) /\ ((g2.3 = y.2) /\ ((0 = 0) /\ ((0 = 0) /\ ((0 = 0) /\ ((0 = 0) /\ ((0 = 0) /\ ((g2.8 =
  true) /\ ((Eq (α := List Value) (gC enR g2.1) (gC enR g)) /\ ((Plain (gC enR g2.1)) /\ ((0 = 0) /\ ((List.length g2.7 = 0 + vLn (Row.mk (List.take 5 (List.drop 0 (gC enR
  g))) true (Ob.cells true)) (0 : Int) + vLn (Row.mk (List.take 5 (List.drop 0 (gC enR g))) true (Ob.cells true)) (1 : Int) + vLn (Row.mk (List.take 5 (List.drop 0 (gC enR
  g))) true (Ob.cells true)) (2 : Int) + vLn (Row.mk (List.take 5 (List.drop 0 (gC enR g))) true (Ob.cells true)) (3 : Int) + vLn (Row.mk (List.take 5 (List.drop 0 (gC enR
  g))) true (Ob.cells true)) (4 : Int)) /\ ((g2.4 = y.3) /\ ((g2.5 = y.4) /\ ((g2.6 = y.5) /\ ((Eq (α := List Value) (iCells IntKind.i64 g2.2) (iCells IntKind.i64 y.1)) /\
  ((Plain (iCells IntKind.i64 g2.2)) /\ ((Eq (α := List Value) (iCells IntKind.i64 g2.7) (iCells IntKind.i64 (dI (Row.mk (iCells IntKind.i64 (dI (Row.mk (iCells IntKind.i64
  (dI (Row.mk (iCells IntKind.i64 (dI (Row.mk (iCells IntKind.i64 ([] ++ vNs (Row.mk (List.take 5 (List.drop 0 (gC enR g))) true (Ob.cells true)) (0 : Int))) false (Ob.cells
  true)) ++ vNs (Row.mk (List.take 5 (List.drop 0 (gC enR g))) true (Ob.cells true)) (1 : Int))) false (Ob.cells true)) ++ vNs (Row.mk (List.take 5 (List.drop 0 (gC enR g)))
  true (Ob.cells true)) (2 : Int))) false (Ob.cells true)) ++ vNs (Row.mk (List.take 5 (List.drop 0 (gC enR g))) true (Ob.cells true)) (3 : Int))) false (Ob.cells true)) ++
  vNs (Row.mk (List.take 5 (List.drop 0 (gC enR g))) true (Ob.cells true)) (4 : Int)))) /\ ((Plain (iCells IntKind.i64 g2.7)) /\ ((g2.12 = (-1 : Int)) /\ ((g2.13 = (0 :
  Int)) /\ ((g2.14 = (0 : Int)) /\ ((g2.15 = false) /\ ((g2.9 = (0 : Int)) /\ ((g2.10 = (0 : Int)) /\ ((g2.11 = (0 : Int)) /\ (∀ (y2 : Unit), ((True) → (∃ y3 : Unit, ((True)
  /\ ((true = true) /\ ((Eq (α := List Value) (gC enR rr) (gC enR g2.1)) /\ ((Plain (gC enR rr)) /\ True))))))))))))))))))))))))))))))))))))) (br (vRt (Row.mk (List.take 5
  (List.drop 0 (gC enR g))) true (Ob.cells true)) (4 : Int)) ((noGo (PanicEntry.mk (Value.iface 10 (Value.string dS)) true false :: reps 10 dS (Int.toNat (vDep (Row.mk
  (List.take 5 (List.drop 0 (gC enR g))) true (Ob.cells true)) (4 : Int)))) = true) /\ (∃ g2 : GH, ((PH g2) /\ ((0 = 0) /\ ((List.length g2.2 = List.length y.1) /\ ((0 = 0)
  /\ ((g2.3 = y.2) /\ ((0 = 0) /\ ((0 = 0) /\ ((0 = 0) /\ ((0 = 0) /\ ((0 = 0) /\ ((g2.8 = true) /\ ((Eq (α := List Value) (gC enR g2.1) (gC enR g)) /\ ((Plain (gC enR
  g2.1)) /\ ((0 = 0) /\ ((List.length g2.7 = 0 + vLn (Row.mk (List.take 5 (List.drop 0 (gC enR g))) true (Ob.cells true)) (0 : Int) + vLn (Row.mk (List.take 5 (List.drop 0
  (gC enR g))) true (Ob.cells true)) (1 : Int) + vLn (Row.mk (List.take 5 (List.drop 0 (gC enR g))) true (Ob.cells true)) (2 : Int) + vLn (Row.mk (List.take 5 (List.drop 0
  (gC enR g))) true (Ob.cells true)) (3 : Int) + vLn (Row.mk (List.take 5 (List.drop 0 (gC enR g))) true (Ob.cells true)) (4 : Int)) /\ ((g2.4 = y.3) /\ ((g2.5 = y.4) /\
  ((g2.6 = y.5) /\ ((Eq (α := List Value) (iCells IntKind.i64 g2.2) (iCells IntKind.i64 y.1)) /\ ((Plain (iCells IntKind.i64 g2.2)) /\ ((Eq (α := List Value) (iCells
  IntKind.i64 g2.7) (iCells IntKind.i64 (dI (Row.mk (iCells IntKind.i64 (dI (Row.mk (iCells IntKind.i64 (dI (Row.mk (iCells IntKind.i64 (dI (Row.mk (iCells IntKind.i64 ([]
  ++ vNs (Row.mk (List.take 5 (List.drop 0 (gC enR g))) true (Ob.cells true)) (0 : Int))) false (Ob.cells true)) ++ vNs (Row.mk (List.take 5 (List.drop 0 (gC enR g))) true
  (Ob.cells true)) (1 : Int))) false (Ob.cells true)) ++ vNs (Row.mk (List.take 5 (List.drop 0 (gC enR g))) true (Ob.cells true)) (2 : Int))) false (Ob.cells true)) ++ vNs
  (Row.mk (List.take 5 (List.drop 0 (gC enR g))) true (Ob.cells true)) (3 : Int))) false (Ob.cells true)) ++ vNs (Row.mk (List.take 5 (List.drop 0 (gC enR g))) true
  (Ob.cells true)) (4 : Int)))) /\ ((Plain (iCells IntKind.i64 g2.7)) /\ ((g2.12 = (-2 : Int)) /\ ((g2.13 = (0 : Int)) /\ ((g2.14 = (0 : Int)) /\ ((g2.15 = false) /\ ((g2.9
  = (2 : Int)) /\ ((g2.10 = (0 : Int)) /\ ((g2.11 = (0 : Int)) /\ (∀ (y2 : Unit), ((True) → (∃ y3 : Unit, ((True) /\ ((true = true) /\ ((Eq (α := List Value) (gC enR rr) (gC
  enR g2.1)) /\ ((Plain (gC enR rr)) /\ True)))))))))))))))))))))))))))))))))))))) ((true = true) /\ ((Value.agg (Array.mk [Value.int IntKind.i64 (vCode (Row.mk (List.take 5
  (List.drop 0 (gC enR g))) true (Ob.cells true)) (4 : Int)), Value.int IntKind.i64 (vPos (Row.mk (List.take 5 (List.drop 0 (gC enR g))) true (Ob.cells true)) (4 : Int))]) =
  Value.agg (Array.mk [Value.int IntKind.i64 (vCode (Row.mk (List.take 5 (List.drop 0 (gC enR g))) true (Ob.cells true)) (4 : Int)), Value.int IntKind.i64 (vPos (Row.mk
  (List.take 5 (List.drop 0 (gC enR g))) true (Ob.cells true)) (4 : Int))])) /\ (∃ g2 : GH, ((PH g2) /\ ((0 = 0) /\ ((List.length g2.2 = List.length y.1) /\ ((0 = 0) /\
  ((g2.3 = y.2) /\ ((0 = 0) /\ ((0 = 0) /\ ((0 = 0) /\ ((0 = 0) /\ ((0 = 0) /\ ((g2.8 = true) /\ ((Eq (α := List Value) (gC enR g2.1) (gC enR g)) /\ ((Plain (gC enR g2.1))
  /\ ((0 = 0) /\ ((List.length g2.7 = 0 + vLn (Row.mk (List.take 5 (List.drop 0 (gC enR g))) true (Ob.cells true)) (0 : Int) + vLn (Row.mk (List.take 5 (List.drop 0 (gC enR
  g))) true (Ob.cells true)) (1 : Int) + vLn (Row.mk (List.take 5 (List.drop 0 (gC enR g))) true (Ob.cells true)) (2 : Int) + vLn (Row.mk (List.take 5 (List.drop 0 (gC enR
  g))) true (Ob.cells true)) (3 : Int) + vLn (Row.mk (List.take 5 (List.drop 0 (gC enR g))) true (Ob.cells true)) (4 : Int)) /\ ((g2.4 = y.3) /\ ((g2.5 = y.4) /\ ((g2.6 =
  y.5) /\ ((Eq (α := List Value) (iCells IntKind.i64 g2.2) (iCells IntKind.i64 y.1)) /\ ((Plain (iCells IntKind.i64 g2.2)) /\ ((Eq (α := List Value) (iCells IntKind.i64
  g2.7) (iCells IntKind.i64 (dI (Row.mk (iCells IntKind.i64 (dI (Row.mk (iCells IntKind.i64 (dI (Row.mk (iCells IntKind.i64 (dI (Row.mk (iCells IntKind.i64 ([] ++ vNs
  (Row.mk (List.take 5 (List.drop 0 (gC enR g))) true (Ob.cells true)) (0 : Int))) false (Ob.cells true)) ++ vNs (Row.mk (List.take 5 (List.drop 0 (gC enR g))) true
  (Ob.cells true)) (1 : Int))) false (Ob.cells true)) ++ vNs (Row.mk (List.take 5 (List.drop 0 (gC enR g))) true (Ob.cells true)) (2 : Int))) false (Ob.cells true)) ++ vNs
  (Row.mk (List.take 5 (List.drop 0 (gC enR g))) true (Ob.cells true)) (3 : Int))) false (Ob.cells true)) ++ vNs (Row.mk (List.take 5 (List.drop 0 (gC enR g))) true
  (Ob.cells true)) (4 : Int)))) /\ ((Plain (iCells IntKind.i64 g2.7)) /\ ((g2.12 = (4 : Int)) /\ ((g2.13 = vCode (Row.mk (List.take 5 (List.drop 0 (gC enR g))) true
  (Ob.cells true)) (4 : Int)) /\ ((g2.14 = vPos (Row.mk (List.take 5 (List.drop 0 (gC enR g))) true (Ob.cells true)) (4 : Int)) /\ ((g2.15 = true) /\ ((g2.9 = (0 : Int)) /\
  ((g2.10 = (0 : Int)) /\ ((g2.11 = (0 : Int)) /\ (∀ (y2 : Unit), ((True) → (∃ y3 : Unit, ((True) /\ ((true = true) /\ ((Eq (α := List Value) (gC enR rr) (gC enR g2.1)) /\
  ((Plain (gC enR rr)) /\ True)))))))))))))))))))))))))))))))))))))))))) (br (vRt (Row.mk (List.take 5 (List.drop 0 (gC enR g))) true (Ob.cells true)) (3 : Int)) ((noGo
  (PanicEntry.mk (Value.iface 10 (Value.string dS)) true false :: reps 10 dS (Int.toNat (vDep (Row.mk (List.take 5 (List.drop 0 (gC enR g))) true (Ob.cells true)) (3 :
  Int)))) = true) /\ (∃ g2 : GH, ((PH g2) /\ ((0 = 0) /\ ((List.length g2.2 = List.length y.1) /\ ((0 = 0) /\ ((g2.3 = y.2) /\ ((0 = 0) /\ ((0 = 0) /\ ((0 = 0) /\ ((0 = 0)
  /\ ((0 = 0) /\ ((g2.8 = true) /\ ((Eq (α := List Value) (gC enR g2.1) (gC enR g)) /\ ((Plain (gC enR g2.1)) /\ ((0 = 0) /\ ((List.length g2.7 = 0 + vLn (Row.mk (List.take
  5 (List.drop 0 (gC enR g))) true (Ob.cells true)) (0 : Int) + vLn (Row.mk (List.take 5 (List.drop 0 (gC enR g))) true (Ob.cells true)) (1 : Int) + vLn (Row.mk (List.take 5
  (List.drop 0 (gC enR g))) true (Ob.cells true)) (2 : Int) + vLn (Row.mk (List.take 5 (List.drop 0 (gC enR g))) true (Ob.cells true)) (3 : Int)) /\ ((g2.4 = y.3) /\ ((g2.5
  = y.4) /\ ((g2.6 = y.5) /\ ((Eq (α := List Value) (iCells IntKind.i64 g2.2) (iCells IntKind.i64 y.1)) /\ ((Plain (iCells IntKind.i64 g2.2)) /\ ((Eq (α := List Value)
  (iCells IntKind.i64 g2.7) (iCells IntKind.i64 (dI (Row.mk (iCells IntKind.i64 (dI (Row.mk (iCells IntKind.i64 (dI (Row.mk (iCells IntKind.i64 ([] ++ vNs (Row.mk (List.take
  5 (List.drop 0 (gC enR g))) true (Ob.cells true)) (0 : Int))) false (Ob.cells true)) ++ vNs (Row.mk (List.take 5 (List.drop 0 (gC enR g))) true (Ob.cells true)) (1 :
  Int))) false (Ob.cells true)) ++ vNs (Row.mk (List.take 5 (List.drop 0 (gC enR g))) true (Ob.cells true)) (2 : Int))) false (Ob.cells true)) ++ vNs (Row.mk (List.take 5
  (List.drop 0 (gC enR g))) true (Ob.cells true)) (3 : Int)))) /\ ((Plain (iCells IntKind.i64 g2.7)) /\ ((g2.12 = (-2 : Int)) /\ ((g2.13 = (0 : Int)) /\ ((g2.14 = (0 : Int))
  /\ ((g2.15 = false) /\ ((g2.9 = (2 : Int)) /\ ((g2.10 = (0 : Int)) /\ ((g2.11 = (0 : Int)) /\ (∀ (y2 : Unit), ((True) → (∃ y3 : Unit, ((True) /\ ((true = true) /\ ((Eq (α
  := List Value) (gC enR rr) (gC enR g2.1)) /\ ((Plain (gC enR rr)) /\ True)))))))))))))))))))))))))))))))))))))) ((true = true) /\ ((Value.agg (Array.mk [Value.int
  IntKind.i64 (vCode (Row.mk (List.take 5 (List.drop 0 (gC enR g))) true (Ob.cells true)) (3 : Int)), Value.int IntKind.i64 (vPos (Row.mk (List.take 5 (List.drop 0 (gC enR
  g))) true (Ob.cells true)) (3 : Int))]) = Value.agg (Array.mk [Value.int IntKind.i64 (vCode (Row.mk (List.take 5 (List.drop 0 (gC enR g))) true (Ob.cells true)) (3 :
  Int)), Value.int IntKind.i64 (vPos (Row.mk (List.take 5 (List.drop 0 (gC enR g))) true (Ob.cells true)) (3 : Int))])) /\ (∃ g2 : GH, ((PH g2) /\ ((0 = 0) /\ ((List.length
  g2.2 = List.length y.1) /\ ((0 = 0) /\ ((g2.3 = y.2) /\ ((0 = 0) /\ ((0 = 0) /\ ((0 = 0) /\ ((0 = 0) /\ ((0 = 0) /\ ((g2.8 = true) /\ ((Eq (α := List Value) (gC enR g2.1)
  (gC enR g)) /\ ((Plain (gC enR g2.1)) /\ ((0 = 0) /\ ((List.length g2.7 = 0 + vLn (Row.mk (List.take 5 (List.drop 0 (gC enR g))) true (Ob.cells true)) (0 : Int) + vLn
  (Row.mk (List.take 5 (List.drop 0 (gC enR g))) true (Ob.cells true)) (1 : Int) + vLn (Row.mk (List.take 5 (List.drop 0 (gC enR g))) true (Ob.cells true)) (2 : Int) + vLn
  (Row.mk (List.take 5 (List.drop 0 (gC enR g))) true (Ob.cells true)) (3 : Int)) /\ ((g2.4 = y.3) /\ ((g2.5 = y.4) /\ ((g2.6 = y.5) /\ ((Eq (α := List Value) (iCells
  IntKind.i64 g2.2) (iCells IntKind.i64 y.1)) /\ ((Plain (iCells IntKind.i64 g2.2)) /\ ((Eq (α := List Value) (iCells IntKind.i64 g2.7) (iCells IntKind.i64 (dI (Row.mk
  (iCells IntKind.i64 (dI (Row.mk (iCells IntKind.i64 (dI (Row.mk (iCells IntKind.i64 ([] ++ vNs (Row.mk (List.take 5 (List.drop 0 (gC enR g))) true (Ob.cells true)) (0 :
  Int))) false (Ob.cells true)) ++ vNs (Row.mk (List.take 5 (List.drop 0 (gC enR g))) true (Ob.cells true)) (1 : Int))) false (Ob.cells true)) ++ vNs (Row.mk (List.take 5
  (List.drop 0 (gC enR g))) true (Ob.cells true)) (2 : Int))) false (Ob.cells true)) ++ vNs (Row.mk (List.take 5 (List.drop 0 (gC enR g))) true (Ob.cells true)) (3 : Int))))
  /\ ((Plain (iCells IntKind.i64 g2.7)) /\ ((g2.12 = (3 : Int)) /\ ((g2.13 = vCode (Row.mk (List.take 5 (List.drop 0 (gC enR g))) true (Ob.cells true)) (3 : Int)) /\ ((g2.14
  = vPos (Row.mk (List.take 5 (List.drop 0 (gC enR g))) true (Ob.cells true)) (3 : Int)) /\ ((g2.15 = true) /\ ((g2.9 = (0 : Int)) /\ ((g2.10 = (0 : Int)) /\ ((g2.11 = (0 :
  Int)) /\ (∀ (y2 : Unit), ((True) → (∃ y3 : Unit, ((True) /\ ((true = true) /\ ((Eq (α := List Value) (gC enR rr) (gC enR g2.1)) /\ ((Plain (gC enR rr)) /\
  True)))))))))))))))))))))))))))))))))))))))))) (br (vRt (Row.mk (List.take 5 (List.drop 0 (gC enR g))) true (Ob.cells true)) (2 : Int)) ((noGo (PanicEntry.mk (Value.iface
  10 (Value.string dS)) true false :: reps 10 dS (Int.toNat (vDep (Row.mk (List.take 5 (List.drop 0 (gC enR g))) true (Ob.cells true)) (2 : Int)))) = true) /\ (∃ g2 : GH,
  ((PH g2) /\ ((0 = 0) /\ ((List.length g2.2 = List.length y.1) /\ ((0 = 0) /\ ((g2.3 = y.2) /\ ((0 = 0) /\ ((0 = 0) /\ ((0 = 0) /\ ((0 = 0) /\ ((0 = 0) /\ ((g2.8 = true) /\
  ((Eq (α := List Value) (gC enR g2.1) (gC enR g)) /\ ((Plain (gC enR g2.1)) /\ ((0 = 0) /\ ((List.length g2.7 = 0 + vLn (Row.mk (List.take 5 (List.drop 0 (gC enR g))) true
  (Ob.cells true)) (0 : Int) + vLn (Row.mk (List.take 5 (List.drop 0 (gC enR g))) true (Ob.cells true)) (1 : Int) + vLn (Row.mk (List.take 5 (List.drop 0 (gC enR g))) true
  (Ob.cells true)) (2 : Int)) /\ ((g2.4 = y.3) /\ ((g2.5 = y.4) /\ ((g2.6 = y.5) /\ ((Eq (α := List Value) (iCells IntKind.i64 g2.2) (iCells IntKind.i64 y.1)) /\ ((Plain
  (iCells IntKind.i64 g2.2)) /\ ((Eq (α := List Value) (iCells IntKind.i64 g2.7) (iCells IntKind.i64 (dI (Row.mk (iCells IntKind.i64 (dI (Row.mk (iCells IntKind.i64 ([] ++
  vNs (Row.mk (List.take 5 (List.drop 0 (gC enR g))) true (Ob.cells true)) (0 : Int))) false (Ob.cells true)) ++ vNs (Row.mk (List.take 5 (List.drop 0 (gC enR g))) true
  (Ob.cells true)) (1 : Int))) false (Ob.cells true)) ++ vNs (Row.mk (List.take 5 (List.drop 0 (gC enR g))) true (Ob.cells true)) (2 : Int)))) /\ ((Plain (iCells IntKind.i64
  g2.7)) /\ ((g2.12 = (-2 : Int)) /\ ((g2.13 = (0 : Int)) /\ ((g2.14 = (0 : Int)) /\ ((g2.15 = false) /\ ((g2.9 = (2 : Int)) /\ ((g2.10 = (0 : Int)) /\ ((g2.11 = (0 : Int))
  /\ (∀ (y2 : Unit), ((True) → (∃ y3 : Unit, ((True) /\ ((true = true) /\ ((Eq (α := List Value) (gC enR rr) (gC enR g2.1)) /\ ((Plain (gC enR rr)) /\
  True)))))))))))))))))))))))))))))))))))))) ((true = true) /\ ((Value.agg (Array.mk [Value.int IntKind.i64 (vCode (Row.mk (List.take 5 (List.drop 0 (gC enR g))) true
  (Ob.cells true)) (2 : Int)), Value.int IntKind.i64 (vPos (Row.mk (List.take 5 (List.drop 0 (gC enR g))) true (Ob.cells true)) (2 : Int))]) = Value.agg (Array.mk [Value.int
  IntKind.i64 (vCode (Row.mk (List.take 5 (List.drop 0 (gC enR g))) true (Ob.cells true)) (2 : Int)), Value.int IntKind.i64 (vPos (Row.mk (List.take 5 (List.drop 0 (gC enR
  g))) true (Ob.cells true)) (2 : Int))])) /\ (∃ g2 : GH, ((PH g2) /\ ((0 = 0) /\ ((List.length g2.2 = List.length y.1) /\ ((0 = 0) /\ ((g2.3 = y.2) /\ ((0 = 0) /\ ((0 = 0)
  /\ ((0 = 0) /\ ((0 = 0) /\ ((0 = 0) /\ ((g2.8 = true) /\ ((Eq (α := List Value) (gC enR g2.1) (gC enR g)) /\ ((Plain (gC enR g2.1)) /\ ((0 = 0) /\ ((List.length g2.7 = 0 +
  vLn (Row.mk (List.take 5 (List.drop 0 (gC enR g))) true (Ob.cells true)) (0 : Int) + vLn (Row.mk (List.take 5 (List.drop 0 (gC enR g))) true (Ob.cells true)) (1 : Int) +
  vLn (Row.mk (List.take 5 (List.drop 0 (gC enR g))) true (Ob.cells true)) (2 : Int)) /\ ((g2.4 = y.3) /\ ((g2.5 = y.4) /\ ((g2.6 = y.5) /\ ((Eq (α := List Value) (iCells
  IntKind.i64 g2.2) (iCells IntKind.i64 y.1)) /\ ((Plain (iCells IntKind.i64 g2.2)) /\ ((Eq (α := List Value) (iCells IntKind.i64 g2.7) (iCells IntKind.i64 (dI (Row.mk
  (iCells IntKind.i64 (dI (Row.mk (iCells IntKind.i64 ([] ++ vNs (Row.mk (List.take 5 (List.drop 0 (gC enR g))) true (Ob.cells true)) (0 : Int))) false (Ob.cells true)) ++
  vNs (Row.mk (List.take 5 (List.drop 0 (gC enR g))) true (Ob.cells true)) (1 : Int))) false (Ob.cells true)) ++ vNs (Row.mk (List.take 5 (List.drop 0 (gC enR g))) true
  (Ob.cells true)) (2 : Int)))) /\ ((Plain (iCells IntKind.i64 g2.7)) /\ ((g2.12 = (2 : Int)) /\ ((g2.13 = vCode (Row.mk (List.take 5 (List.drop 0 (gC enR g))) true
  (Ob.cells true)) (2 : Int)) /\ ((g2.14 = vPos (Row.mk (List.take 5 (List.drop 0 (gC enR g))) true (Ob.cells true)) (2 : Int)) /\ ((g2.15 = true) /\ ((g2.9 = (0 : Int)) /\
  ((g2.10 = (0 : Int)) /\ ((g2.11 = (0 : Int)) /\ (∀ (y2 : Unit), ((True) → (∃ y3 : Unit, ((True) /\ ((true = true) /\ ((Eq (α := List Value) (gC enR rr) (gC enR g2.1)) /\
  ((Plain (gC enR rr)) /\ True)))))))))))))))))))))))))))))))))))))))))) (br (vRt (Row.mk (List.take 5 (List.drop 0 (gC enR g))) true (Ob.cells true)) (1 : Int)) ((noGo
  (PanicEntry.mk (Value.iface 10 (Value.string dS)) true false :: reps 10 dS (Int.toNat (vDep (Row.mk (List.take 5 (List.drop 0 (gC enR g))) true (Ob.cells true)) (1 :
  Int)))) = true) /\ (∃ g2 : GH, ((PH g2) /\ ((0 = 0) /\ ((List.length g2.2 = List.length y.1) /\ ((0 = 0) /\ ((g2.3 = y.2) /\ ((0 = 0) /\ ((0 = 0) /\ ((0 = 0) /\ ((0 = 0)
  /\ ((0 = 0) /\ ((g2.8 = true) /\ ((Eq (α := List Value) (gC enR g2.1) (gC enR g)) /\ ((Plain (gC enR g2.1)) /\ ((0 = 0) /\ ((List.length g2.7 = 0 + vLn (Row.mk (List.take
  5 (List.drop 0 (gC enR g))) true (Ob.cells true)) (0 : Int) + vLn (Row.mk (List.take 5 (List.drop 0 (gC enR g))) true (Ob.cells true)) (1 : Int)) /\ ((g2.4 = y.3) /\
  ((g2.5 = y.4) /\ ((g2.6 = y.5) /\ ((Eq (α := List Value) (iCells IntKind.i64 g2.2) (iCells IntKind.i64 y.1)) /\ ((Plain (iCells IntKind.i64 g2.2)) /\ ((Eq (α := List
  Value) (iCells IntKind.i64 g2.7) (iCells IntKind.i64 (dI (Row.mk (iCells IntKind.i64 ([] ++ vNs (Row.mk (List.take 5 (List.drop 0 (gC enR g))) true (Ob.cells true)) (0 :
  Int))) false (Ob.cells true)) ++ vNs (Row.mk (List.take 5 (List.drop 0 (gC enR g))) true (Ob.cells true)) (1 : Int)))) /\ ((Plain (iCells IntKind.i64 g2.7)) /\ ((g2.12 =
  (-2 : Int)) /\ ((g2.13 = (0 : Int)) /\ ((g2.14 = (0 : Int)) /\ ((g2.15 = false) /\ ((g2.9 = (2 : Int)) /\ ((g2.10 = (0 : Int)) /\ ((g2.11 = (0 : Int)) /\ (∀ (y2 : Unit),
  ((True) → (∃ y3 : Unit, ((True) /\ ((true = true) /\ ((Eq (α := List Value) (gC enR rr) (gC enR g2.1)) /\ ((Plain (gC enR rr)) /\
  True)))))))))))))))))))))))))))))))))))))) ((true = true) /\ ((Value.agg (Array.mk [Value.int IntKind.i64 (vCode (Row.mk (List.take 5 (List.drop 0 (gC enR g))) true
  (Ob.cells true)) (1 : Int)), Value.int IntKind.i64 (vPos (Row.mk (List.take 5 (List.drop 0 (gC enR g))) true (Ob.cells true)) (1 : Int))]) = Value.agg (Array.mk [Value.int
  IntKind.i64 (vCode (Row.mk (List.take 5 (List.drop 0 (gC enR g))) true (Ob.cells true)) (1 : Int)), Value.int IntKind.i64 (vPos (Row.mk (List.take 5 (List.drop 0 (gC enR
  g))) true (Ob.cells true)) (1 : Int))])) /\ (∃ g2 : GH, ((PH g2) /\ ((0 = 0) /\ ((List.length g2.2 = List.length y.1) /\ ((0 = 0) /\ ((g2.3 = y.2) /\ ((0 = 0) /\ ((0 = 0)
  /\ ((0 = 0) /\ ((0 = 0) /\ ((0 = 0) /\ ((g2.8 = true) /\ ((Eq (α := List Value) (gC enR g2.1) (gC enR g)) /\ ((Plain (gC enR g2.1)) /\ ((0 = 0) /\ ((List.length g2.7 = 0 +
  vLn (Row.mk (List.take 5 (List.drop 0 (gC enR g))) true (Ob.cells true)) (0 : Int) + vLn (Row.mk (List.take 5 (List.drop 0 (gC enR g))) true (Ob.cells true)) (1 : Int)) /\
  ((g2.4 = y.3) /\ ((g2.5 = y.4) /\ ((g2.6 = y.5) /\ ((Eq (α := List Value) (iCells IntKind.i64 g2.2) (iCells IntKind.i64 y.1)) /\ ((Plain (iCells IntKind.i64 g2.2)) /\ ((Eq
  (α := List Value) (iCells IntKind.i64 g2.7) (iCells IntKind.i64 (dI (Row.mk (iCells IntKind.i64 ([] ++ vNs (Row.mk (List.take 5 (List.drop 0 (gC enR g))) true (Ob.cells
  true)) (0 : Int))) false (Ob.cells true)) ++ vNs (Row.mk (List.take 5 (List.drop 0 (gC enR g))) true (Ob.cells true)) (1 : Int)))) /\ ((Plain (iCells IntKind.i64 g2.7)) /\
  ((g2.12 = (1 : Int)) /\ ((g2.13 = vCode (Row.mk (List.take 5 (List.drop 0 (gC enR g))) true (Ob.cells true)) (1 : Int)) /\ ((g2.14 = vPos (Row.mk (List.take 5 (List.drop 0
  (gC enR g))) true (Ob.cells true)) (1 : Int)) /\ ((g2.15 = true) /\ ((g2.9 = (0 : Int)) /\ ((g2.10 = (0 : Int)) /\ ((g2.11 = (0 : Int)) /\ (∀ (y2 : Unit), ((True) → (∃ y3
  : Unit, ((True) /\ ((true = true) /\ ((Eq (α := List Value) (gC enR rr) (gC enR g2.1)) /\ ((Plain (gC enR rr)) /\ True)))))))))))))))))))))))))))))))))))))))))) (br (vRt
  (Row.mk (List.take 5 (List.drop 0 (gC enR g))) true (Ob.cells true)) (0 : Int)) ((noGo (PanicEntry.mk (Value.iface 10 (Value.string dS)) true false :: reps 10 dS
  (Int.toNat (vDep (Row.mk (List.take 5 (List.drop 0 (gC enR g))) true (Ob.cells true)) (0 : Int)))) = true) /\ (∃ g2 : GH, ((PH g2) /\ ((0 = 0) /\ ((List.length g2.2 =
  List.length y.1) /\ ((0 = 0) /\ ((g2.3 = y.2) /\ ((0 = 0) /\ ((0 = 0) /\ ((0 = 0) /\ ((0 = 0) /\ ((0 = 0) /\ ((g2.8 = true) /\ ((Eq (α := List Value) (gC enR g2.1) (gC enR
  g)) /\ ((Plain (gC enR g2.1)) /\ ((0 = 0) /\ ((List.length g2.7 = 0 + vLn (Row.mk (List.take 5 (List.drop 0 (gC enR g))) true (Ob.cells true)) (0 : Int)) /\ ((g2.4 = y.3)
  /\ ((g2.5 = y.4) /\ ((g2.6 = y.5) /\ ((Eq (α := List Value) (iCells IntKind.i64 g2.2) (iCells IntKind.i64 y.1)) /\ ((Plain (iCells IntKind.i64 g2.2)) /\ ((Eq (α := List
  Value) (iCells IntKind.i64 g2.7) (iCells IntKind.i64 ([] ++ vNs (Row.mk (List.take 5 (List.drop 0 (gC enR g))) true (Ob.cells true)) (0 : Int)))) /\ ((Plain (iCells
  IntKind.i64 g2.7)) /\ ((g2.12 = (-2 : Int)) /\ ((g2.13 = (0 : Int)) /\ ((g2.14 = (0 : Int)) /\ ((g2.15 = false) /\ ((g2.9 = (2 : Int)) /\ ((g2.10 = (0 : Int)) /\ ((g2.11 =
  (0 : Int)) /\ (∀ (y2 : Unit), ((True) → (∃ y3 : Unit, ((True) /\ ((true = true) /\ ((Eq (α := List Value) (gC enR rr) (gC enR g2.1)) /\ ((Plain (gC enR rr)) /\
  True)))))))))))))))))))))))))))))))))))))) ((true = true) /\ ((Value.agg (Array.mk [Value.int IntKind.i64 (vCode (Row.mk (List.take 5 (List.drop 0 (gC enR g))) true
  (Ob.cells true)) (0 : Int)), Value.int IntKind.i64 (vPos (Row.mk (List.take 5 (List.drop 0 (gC enR g))) true (Ob.cells true)) (0 : Int))]) = Value.agg (Array.mk [Value.int
  IntKind.i64 (vCode (Row.mk (List.take 5 (List.drop 0 (gC enR g))) true (Ob.cells true)) (0 : Int)), Value.int IntKind.i64 (vPos (Row.mk (List.take 5 (List.drop 0 (gC enR
  g))) true (Ob.cells true)) (0 : Int))])) /\ (∃ g2 : GH, ((PH g2) /\ ((0 = 0) /\ ((List.length g2.2 = List.length y.1) /\ ((0 = 0) /\ ((g2.3 = y.2) /\ ((0 = 0) /\ ((0 = 0)
  /\ ((0 = 0) /\ ((0 = 0) /\ ((0 = 0) /\ ((g2.8 = true) /\ ((Eq (α := List Value) (gC enR g2.1) (gC enR g)) /\ ((Plain (gC enR g2.1)) /\ ((0 = 0) /\ ((List.length g2.7 = 0 +
  vLn (Row.mk (List.take 5 (List.drop 0 (gC enR g))) true (Ob.cells true)) (0 : Int)) /\ ((g2.4 = y.3) /\ ((g2.5 = y.4) /\ ((g2.6 = y.5) /\ ((Eq (α := List Value) (iCells
  IntKind.i64 g2.2) (iCells IntKind.i64 y.1)) /\ ((Plain (iCells IntKind.i64 g2.2)) /\ ((Eq (α := List Value) (iCells IntKind.i64 g2.7) (iCells IntKind.i64 ([] ++ vNs
  (Row.mk (List.take 5 (List.drop 0 (gC enR g))) true (Ob.cells true)) (0 : Int)))) /\ ((Plain (iCells IntKind.i64 g2.7)) /\ ((g2.12 = (0 : Int)) /\ ((g2.13 = vCode (Row.mk
  (List.take 5 (List.drop 0 (gC enR g))) true (Ob.cells true)) (0 : Int)) /\ ((g2.14 = vPos (Row.mk (List.take 5 (List.drop 0 (gC enR g))) true (Ob.cells true)) (0 : Int))
  /\ ((g2.15 = true) /\ ((g2.9 = (0 : Int)) /\ ((g2.10 = (0 : Int)) /\ ((g2.11 = (0 : Int)) /\ (∀ (y2 : Unit), ((True) → (∃ y3 : Unit, ((True) /\ ((true = true) /\ ((Eq (α
  := List Value) (gC enR rr) (gC enR g2.1)) /\ ((Plain (gC enR rr)) /\ True)))))))))))))))))))))))))))))))))))))))))))))))))))))))))))) := by kernel_rfl
set_option maxHeartbeats 4000000 in
theorem G6_vc (rr : List (List Ac)) : mlG rr 6 (Sy.endsIn 1 130 (wsG rr)) =
  (∃ g : List (List Ac), ((PF (GF.mk g 6)) /\ ((0 = 0) /\ ((0 = 0) /\ ((0 = 0) /\ (((-1 : Int) = (-1 : Int)) /\ ((0 = 0) /\ (((0 : Int) = (0 : Int)) /\ ((Eq (α := List
  Value) (gC enR g) (gC enR rr)) /\ ((Plain (gC enR g)) /\ ((0 = 0) /\ ((6 = 6) /\ (((0 : Int) = (0 : Int)) /\ (((0 : Int) = (0 : Int)) /\ (((0 : Int) = (0 : Int)) /\ ((Eq
  (α := List Value) ([]) ([])) /\ (∀ (y : FR), ((y = ftl (subs (GF.mk g 6)) 0) → ((((True /\ (True /\ (True /\ True))) /\ ((((6 <= List.length (gC enR g) /\ Plain (List.take
  6 (List.drop 0 (gC enR g)))) /\ True) /\ ((True /\ True) /\ ((True /\ True) /\ (True /\ (Plain [] /\ True))))) /\ ((Plain (iCells IntKind.i64 ([] ++ vNs (Row.mk (List.take
  6 (List.drop 0 (gC enR g))) true (Ob.cells true)) (0 : Int))) /\ True) /\ (IsF (Row.mk (List.take 6 (List.drop 0 (gC enR g))) true (Ob.cells true)) 6 (0 : Int) 0 /\ IsZ
  (Row.mk [] false (Ob.cells true)) 0))))) /\ (br (vOk (Row.mk (List.take 6 (List.drop 0 (gC enR g))) true (Ob.cells true)) (0 : Int)) ((((True /\ (True /\ (True /\ True)))
  /\ ((((6 <= List.length (gC enR g) /\ Plain (List.take 6 (List.drop 0 (gC enR g)))) /\ True) /\ ((True /\ True) /\ ((True /\ True) /\ (True /\ (Plain (iCells IntKind.i64
  ([] ++ vNs (Row.mk (List.take 6 (List.drop 0 (gC enR g))) true (Ob.cells true)) (0 : Int))) /\ True))))) /\ ((Plain (iCells IntKind.i64 (dI (Row.mk (iCells IntKind.i64 ([]
  ++ vNs (Row.mk (List.take 6 (List.drop 0 (gC enR g))) true (Ob.cells true)) (0 : Int))) false (Ob.cells true)) ++ vNs (Row.mk (List.take 6 (List.drop 0 (gC enR g))) true
  (Ob.cells true)) (1 : Int))) /\ True) /\ (IsF (Row.mk (List.take 6 (List.drop 0 (gC enR g))) true (Ob.cells true)) 6 (1 : Int) (0 + vLn (Row.mk (List.take 6 (List.drop 0
  (gC enR g))) true (Ob.cells true)) (0 : Int)) /\ IsZ (Row.mk (iCells IntKind.i64 ([] ++ vNs (Row.mk (List.take 6 (List.drop 0 (gC enR g))) true (Ob.cells true)) (0 :
  Int))) false (Ob.cells true)) (0 + vLn (Row.mk (List.take 6 (List.drop 0 (gC enR g))) true (Ob.cells true)) (0 : Int))))))) /\ (br (vOk (Row.mk (List.take 6 (List.drop 0
  (gC enR g))) true (Ob.cells true)) (1 : Int)) ((((True /\ (True /\ (True /\ True))) /\ ((((6 <= List.length (gC enR g) /\ Plain (List.take 6 (List.drop 0 (gC enR g)))) /\
  True) /\ ((True /\ True) /\ ((True /\ True) /\ (True /\ (Plain (iCells IntKind.i64 (dI (Row.mk (iCells IntKind.i64 ([] ++ vNs (Row.mk (List.take 6 (List.drop 0 (gC enR
  g))) true (Ob.cells true)) (0 : Int))) false (Ob.cells true)) ++ vNs (Row.mk (List.take 6 (List.drop 0 (gC enR g))) true (Ob.cells true)) (1 : Int))) /\ True))))) /\
  ((Plain (iCells IntKind.i64 (dI (Row.mk (iCells IntKind.i64 (dI (Row.mk (iCells IntKind.i64 ([] ++ vNs (Row.mk (List.take 6 (List.drop 0 (gC enR g))) true (Ob.cells true))
  (0 : Int))) false (Ob.cells true)) ++ vNs (Row.mk (List.take 6 (List.drop 0 (gC enR g))) true (Ob.cells true)) (1 : Int))) false (Ob.cells true)) ++ vNs (Row.mk (List.take
  6 (List.drop 0 (gC enR g))) true (Ob.cells true)) (2 : Int))) /\ True) /\ (IsF (Row.mk (List.take 6 (List.drop 0 (gC enR g))) true (Ob.cells true)) 6 (2 : Int) (0 + vLn
  (Row.mk (List.take 6 (List.drop 0 (gC enR g))) true (Ob.cells true)) (0 : Int) + vLn (Row.mk (List.take 6 (List.drop 0 (gC enR g))) true (Ob.cells true)) (1 : Int)) /\ IsZ
  (Row.mk (iCells IntKind.i64 (dI (Row.mk (iCells IntKind.i64 ([] ++ vNs (Row.mk (List.take 6 (List.drop 0 (gC enR g))) true (Ob.cells true)) (0 : Int))) false (Ob.cells
  true)) ++ vNs (Row.mk (List.take 6 (List.drop 0 (gC enR g))) true (Ob.cells true)) (1 : Int))) false (Ob.cells true)) (0 + vLn (Row.mk (List.take 6 (List.drop 0 (gC enR
  g))) true (Ob.cells true)) (0 : Int) + vLn (Row.mk (List.take 6 (List.drop 0 (gC enR g))) true (Ob.cells true)) (1 : Int))))))) /\ (br (vOk (Row.mk (List.take 6 (List.drop
  0 (gC enR g))) true (Ob.cells true)) (2 : Int)) ((((True /\ (True /\ (True /\ True))) /\ ((((6 <= List.length (gC enR g) /\ Plain (List.take 6 (List.drop 0 (gC enR g))))
  /\ True) /\ ((True /\ True) /\ ((True /\ True) /\ (True /\ (Plain (iCells IntKind.i64 (dI (Row.mk (iCells IntKind.i64 (dI (Row.mk (iCells IntKind.i64 ([] ++ vNs (Row.mk
  (List.take 6 (List.drop 0 (gC enR g))) true (Ob.cells true)) (0 : Int))) false (Ob.cells true)) ++ vNs (Row.mk (List.take 6 (List.drop 0 (gC enR g))) true (Ob.cells true))
  (1 : Int))) false (Ob.cells true)) ++ vNs (Row.mk (List.take 6 (List.drop 0 (gC enR g))) true (Ob.cells true)) (2 : Int))) /\ True))))) /\ ((Plain (iCells IntKind.i64 (dI
  (Row.mk (iCells IntKind.i64 (dI (Row.mk (iCells IntKind.i64 (dI (Row.mk (iCells IntKind.i64 ([] ++ vNs (Row.mk (List.take 6 (List.drop 0 (gC enR g))) true (Ob.cells true))
  (0 : Int))) false (Ob.cells true)) ++ vNs (Row.mk (List.take 6 (List.drop 0 (gC enR g))) true (Ob.cells true)) (1 : Int))) false (Ob.cells true)) ++ vNs (Row.mk (List.take
  6 (List.drop 0 (gC enR g))) true (Ob.cells true)) (2 : Int))) false (Ob.cells true)) ++ vNs (Row.mk (List.take 6 (List.drop 0 (gC enR g))) true (Ob.cells true)) (3 :
  Int))) /\ True) /\ (IsF (Row.mk (List.take 6 (List.drop 0 (gC enR g))) true (Ob.cells true)) 6 (3 : Int) (0 + vLn (Row.mk (List.take 6 (List.drop 0 (gC enR g))) true
  (Ob.cells true)) (0 : Int) + vLn (Row.mk (List.take 6 (List.drop 0 (gC enR g))) true (Ob.cells true)) (1 : Int) + vLn (Row.mk (List.take 6 (List.drop 0 (gC enR g))) true
  (Ob.cells true)) (2 : Int)) /\ IsZ (Row.mk (iCells IntKind.i64 (dI (Row.mk (iCells IntKind.i64 (dI (Row.mk (iCells IntKind.i64 ([] ++ vNs (Row.mk (List.take 6 (List.drop 0
  (gC enR g))) true (Ob.cells true)) (0 : Int))) false (Ob.cells true)) ++ vNs (Row.mk (List.take 6 (List.drop 0 (gC enR g))) true (Ob.cells true)) (1 : Int))) false
  (Ob.cells true)) ++ vNs (Row.mk (List.take 6 (List.drop 0 (gC enR g))) true (Ob.cells true)) (2 : Int))) false (Ob.cells true)) (0 + vLn (Row.mk (List.take 6 (List.drop 0
  (gC enR g))) true (Ob.cells true)) (0 : Int) + vLn (Row.mk (List.take 6 (List.drop 0 (gC enR g))) true (Ob.cells true)) (1 : Int) + vLn (Row.mk (List.take 6 (List.drop 0
  (gC enR g))) true (Ob.cells true)) (2 : Int))))))) /\ (br (vOk (Row.mk (List.take 6 (List.drop 0 (gC enR g))) true (Ob.cells true)) (3 : Int)) ((((True /\ (True /\ (True
  /\ True))) /\ ((((6 <= List.length (gC enR g) /\ Plain (List.take 6 (List.drop 0 (gC enR g)))) /\ True) /\ ((True /\ True) /\ ((True /\ True) /\ (True /\ (Plain (iCells
  IntKind.i64 (dI (Row.mk (iCells IntKind.i64 (dI (Row.mk (iCells IntKind.i64 (dI (Row.mk (iCells IntKind.i64 ([] ++ vNs (Row.mk (List.take 6 (List.drop 0 (gC enR g))) true
  (Ob.cells true)) (0 : Int))) false (Ob.cells true)) ++ vNs (Row.mk (List.take 6 (List.drop 0 (gC enR g))) true (Ob.cells true)) (1 : Int))) false (Ob.cells true)) ++ vNs
  (Row.mk (List.take 6 (List.drop 0 (gC enR g))) true (Ob.cells true)) (2 : Int))) false (Ob.cells true)) ++ vNs (Row.mk (List.take 6 (List.drop 0 (gC enR g))) true
  (Ob.cells true)) (3 : Int))) /\ True))))) /\ ((Plain (iCells IntKind.i64 (dI (Row.mk (iCells IntKind.i64 (dI (Row.mk (iCells IntKind.i64 (dI (Row.mk (iCells IntKind.i64
  (dI (Row.mk (iCells IntKind.i64 ([] ++ vNs (Row.mk (List.take 6 (List.drop 0 (gC enR g))) true (Ob.cells true)) (0 : Int))) false (Ob.cells true)) ++ vNs (Row.mk
  (List.take 6 (List.drop 0 (gC enR g))) true (Ob.cells true)) (1 : Int))) false (Ob.cells true)) ++ vNs (Row.mk (List.take 6 (List.drop 0 (gC enR g))) true (Ob.cells true))
  (2 : Int))) false (Ob.cells true)) ++ vNs (Row.mk (List.take 6 (List.drop 0 (gC enR g))) true (Ob.cells true)) (3 : Int))) false (Ob.cells true)) ++ vNs (Row.mk (List.take
  6 (List.drop 0 (gC enR g))) true (Ob.cells true)) (4 : Int))) /\ True) /\ (IsF (Row.mk (List.take 6 (List.drop 0 (gC enR g))) true (Ob.cells true)) 6 (4 : Int) (0 + vLn
  (Row.mk (List.take 6 (List.drop 0 (gC enR g))) true (Ob.cells true)) (0 : Int) + vLn (Row.mk (List.take 6 (List.drop 0 (gC enR g))) true (Ob.cells true)) (1 : Int) + vLn
  (Row.mk (List.take 6 (List.drop 0 (gC enR g))) true (Ob.cells true)) (2 : Int) + vLn (Row.mk (List.take 6 (List.drop 0 (gC enR g))) true (Ob.cells true)) (3 : Int)) /\ IsZ
  (Row.mk (iCells IntKind.i64 (dI (Row.mk (iCells IntKind.i64 (dI (Row.mk (iCells IntKind.i64 (dI (Row.mk (iCells IntKind.i64 ([] ++ vNs (Row.mk (List.take 6 (List.drop 0
  (gC enR g))) true (Ob.cells true)) (0 : Int))) false (Ob.cells true)) ++ vNs (Row.mk (List.take 6 (List.drop 0 (gC enR g))) true (Ob.cells true)) (1 : Int))) false
  (Ob.cells true)) ++ vNs (Row.mk (List.take 6 (List.drop 0 (gC enR g))) true (Ob.cells true)) (2 : Int))) false (Ob.cells true)) ++ vNs (Row.mk (List.take 6 (List.drop 0
  (gC enR g))) true (Ob.cells true)) (3 : Int))) false (Ob.cells true)) (0 + vLn (Row.mk (List.take 6 (List.drop 0 (gC enR g))) true (Ob.cells true)) (0 : Int) + vLn (Row.mk
  (List.take 6 (List.drop 0 (gC enR g))) true (Ob.cells true)) (1 : Int) + vLn (Row.mk (List.take 6 (List.drop 0 (gC enR g))) true (Ob.cells true)) (2 : Int) + vLn (Row.mk
  (List.take 6 (List.drop 0 (gC enR g))) true (Ob.cells true)) (3 : Int))))))) /\ (br (vOk (Row.mk (List.take 6 (List.drop 0 (gC enR g))) true (Ob.cells true)) (4 : Int))
  ((((True /\ (True /\ (True /\ True))) /\ ((((6 <= List.length (gC enR g) /\ Plain (List.take 6 (List.drop 0 (gC enR g)))) /\ True) /\ ((True /\ True) /\ ((True /\ True) /\
  (True /\ (Plain (iCells IntKind.i64 (dI (Row.mk (iCells IntKind.i64 (dI (Row.mk (iCells IntKind.i64 (dI (Row.mk (iCells IntKind.i64 (dI (Row.mk (iCells IntKind.i64 ([] ++
  vNs (Row.mk (List.take 6 (List.drop 0 (gC enR g))) true (Ob.cells true)) (0 : Int))) false (Ob.cells true)) ++ vNs (Row.mk (List.take 6 (List.drop 0 (gC enR g))) true
  (Ob.cells true)) (1 : Int))) false (Ob.cells true)) ++ vNs (Row.mk (List.take 6 (List.drop 0 (gC enR g))) true (Ob.cells true)) (2 : Int))) false (Ob.cells true)) ++ vNs
  (Row.mk (List.take 6 (List.drop 0 (gC enR g))) true (Ob.cells true)) (3 : Int))) false (Ob.cells true)) ++ vNs (Row.mk (List.take 6 (List.drop 0 (gC enR g))) true
  (Ob.cells true)) (4 : Int))) /\ True))))) /\ ((Plain (iCells IntKind.i64 (dI (Row.mk (iCells IntKind.i64 (dI (Row.mk (iCells IntKind.i64 (dI (Row.mk (iCells IntKind.i64
  (dI (Row.mk (iCells IntKind.i64 (dI (Row.mk (iCells IntKind.i64 ([] ++ vNs (Row.mk (List.take 6 (List.drop 0 (gC enR g))) true (Ob.cells true)) (0 : Int))) false (Ob.cells
  true)) ++ vNs (Row.mk (List.take 6 (List.drop 0 (gC enR g))) true (Ob.cells true)) (1 : Int))) false (Ob.cells true)) ++ vNs (Row.mk (List.take 6 (List.drop 0 (gC enR g)))
  true (Ob.cells true)) (2 : Int))) false (Ob.cells true)) ++ vNs (Row.mk (List.take 6 (List.drop 0 (gC enR g))) true (Ob.cells true)) (3 : Int))) false (Ob.cells true)) ++
  vNs (Row.mk (List.take 6 (List.drop 0 (gC enR g))) true (Ob.cells true)) (4 : Int))) false (Ob.cells true)) ++ vNs (Row.mk (List.take 6 (List.drop 0 (gC enR g))) true
  (Ob.cells true)) (5 : Int))) /\ True) /\ (IsF (Row.mk (List.take 6 (List.drop 0 (gC enR g))) true (Ob.cells true)) 6 (5 : Int) (0 + vLn (Row.mk (List.take 6 (List.drop 0
  (gC enR g))) true (Ob.cells true)) (0 : Int) + vLn (Row.mk (List.take 6 (List.drop 0 (gC enR g))) true (Ob.cells true)) (1 : Int) + vLn (Row.mk (List.take 6 (List.drop 0
  (gC enR g))) true (Ob.cells true)) (2 : Int) + vLn (Row.mk (List.take 6 (List.drop 0 (gC enR g))) true (Ob.cells true)) (3 : Int) + vLn (Row.mk (List.take 6 (List.drop 0
  (gC enR g))) true (Ob.cells true)) (4 : Int)) /\ IsZ (Row.mk (iCells IntKind.i64 (dI (Row.mk (iCells IntKind.i64 (dI (Row.mk (iCells IntKind.i64 (dI (Row.mk (iCells
  IntKind.i64 (dI (Row.mk (iCells IntKind.i64 ([] ++ vNs (Row.mk (List.take 6 (List.drop 0 (gC enR g))) true (Ob.cells true)) (0 : Int))) false (Ob.cells true)) ++ vNs
  (Row.mk (List.take 6 (List.drop 0 (gC enR g))) true (Ob.cells true)) (1 : Int))) false (Ob.cells true)) ++ vNs (Row.mk (List.take 6 (List.drop 0 (gC enR g))) true
  (Ob.cells true)) (2 : Int))) false (Ob.cells true)) ++ vNs (Row.mk (List.take 6 (List.drop 0 (gC enR g))) true (Ob.cells true)) (3 : Int))) false (Ob.cells true)) ++ vNs
  (Row.mk (List.take 6 (List.drop 0 (gC enR g))) true (Ob.cells true)) (4 : Int))) false (Ob.cells true)) (0 + vLn (Row.mk (List.take 6 (List.drop 0 (gC enR g))) true
  (Ob.cells true)) (0 : Int) + vLn (Row.mk (List.take 6 (List.drop 0 (gC enR g))) true (Ob.cells true)) (1 : Int) + vLn (Row.mk (List.take 6 (List.drop 0 (gC enR g))) true
  (Ob.cells true)) (2 : Int) + vLn (Row.mk (List.take 6 (List.drop 0 (gC enR g))) true (Ob.cells true)) (3 : Int) + vLn (Row.mk (List.take 6 (List.drop 0 (gC enR g))) true
  (Ob.cells true)) (4 : Int))))))) /\ (br (vOk (Row.mk (List.take 6 (List.drop 0 (gC enR g))) true (Ob.cells true)) (5 : Int)) (∃ g2 : GH, ((PH g2) /\ ((0 = 0) /\
  ((List.length g2.2 = List.length y.1) /\ ((0 = 0) /\ ((g2.3 = y.2) /\ ((0 = 0) /\ ((0 = 0) /\ ((0 = 0) /\ ((0 = 0) /\ ((0 = 0) /\ ((g2.8 = true) /\ ((Eq (α := List Value)
  (gC enR g2.1) (gC enR g)) /\ ((Plain (gC enR g2.1)) /\ ((0 = 0) /\ ((List.length g2.7 = 0 + vLn (Row.mk (List.take 6 (List.drop 0 (gC enR g))) true (Ob.cells true)) (0 :
  Int) + vLn (Row.mk (List.take 6 (List.drop 0 (gC enR g))) true (Ob.cells true)) (1 : Int) + vLn (Row.mk (List.take 6 (List.drop 0 (gC enR g))) true (Ob.cells true)) (2 :
  Int) + vLn (Row.mk (List.take 6 (List.drop 0 (gC enR g))) true (Ob.cells true)) (3 : Int) + vLn (Row.mk (List.take 6 (List.drop 0 (gC enR g))) true (Ob.cells true)) (4 :
  Int) + vLn (Row.mk (List.take 6 (List.drop 0 (gC enR g))) true (Ob.cells true)) (5 : Int)) /\ ((g2.4 = y.3) /\ ((g2.5 = y.4) /\ ((g2.6 = y.5) /\ ((Eq (α := List Value)
  (iCells IntKind.i64 g2.2) (iCells IntKind.i64 y.1)) /\ ((Plain (iCells IntKind.i64 g2.2)) /\ ((Eq (α := List Value) (iCells IntKind.i64 g2.7) (iCells IntKind.i64 (dI
  (Row.mk (iCells IntKind.i64 (dI (Row.mk (iCells IntKind.i64 (dI (Row.mk (iCells IntKind.i64 (dI (Row.mk (iCells IntKind.i64 (dI (Row.mk (iCells IntKind.i64 ([] ++ vNs
  (Row.mk (List.take 6 (List.drop 0 (gC enR g))) true (Ob.cells true)) (0 : Int))) false (Ob.cells true)) ++ vNs (Row.mk (List.take 6 (List.drop 0 (gC enR g))) true
  (Ob.cells true)) (1 : Int))) false (Ob.cells true)) ++ vNs (Row.mk (List.take 6 (List.drop 0 (gC enR g))) true (Ob.cells true)) (2 : Int))) false (Ob.cells true)) ++ vNs
  (Row.mk (List.take 6 (List.drop 0 (gC enR g))) true (Ob.cells true)) (3 : Int))) false (Ob.cells true)) ++ vNs (Row.mk (List.take 6 (List.drop 0 (gC enR g))) true
  (Ob.cells true)) (4 : Int))) false (Ob.cells true)) ++ vNs (Row.mk (List.take 6 (List.drop 0 (gC enR g))) true (Ob.cells true)) (5 : Int)))) /\ ((Plain (iCells IntKind.i64
  g2.7)) /\ ((g2.12 = (-1 : Int)) /\ ((g2.13 = (0 : Int)) /\ ((g2.14 = (0 : Int)) /\ ((g2.15 = false) /\ ((g2.9 = (0 : Int)) /\ ((g2.10 = (0 : Int)) /\ ((g2.11 = (0 : Int))
  /\ (∀ (y2 : Unit), ((True) → (∃ y3 : Unit, ((True) /\ ((true = true) /\ ((Eq (α := List Value) (gC enR rr) (gC enR g2.1)) /\ ((Plain (gC enR rr)) /\
  True))))))))))))))))))))))))))))))))))))) (br (vRt (Row.mk (List.take 6 (List.drop 0 (gC enR g))) true (Ob.cells true)) (5 : Int)) ((noGo (PanicEntry.mk (Value.iface 10
  (Value.string dS)) true false :: reps 10 dS (Int.toNat (vDep (Row.mk (List.take 6 (List.drop 0 (gC enR g))) true (Ob.cells true)) (5 : Int)))) = true) /\ (∃ g2 : GH, ((PH
  g2) /\ ((0 = 0) /\ ((List.length g2.2 = List.length y.1) /\ ((0 = 0) /\ ((g2.3 = y.2) /\ ((0 = 0) /\ ((0 = 0) /\ ((0 = 0) /\ ((0 = 0) /\ ((0 = 0) /\ ((g2.8 = true) /\ ((Eq
  (α := List Value) (gC enR g2.1) (gC enR g)) /\ ((Plain (gC enR g2.1)) /\ ((0 = 0) /\ ((List.length g2.7 = 0 + vLn (Row.mk (List.take 6 (List.drop 0 (gC enR g))) true
  (Ob.cells true)) (0 : Int) + vLn (Row.mk (List.take 6 (List.drop 0 (gC enR g))) true (Ob.cells true)) (1 : Int) + vLn (Row.mk (List.take 6 (List.drop 0 (gC enR g))) true
  (Ob.cells true)) (2 : Int) + vLn (Row.mk (List.take 6 (List.drop 0 (gC enR g))) true (Ob.cells true)) (3 : Int) + vLn (Row.mk (List.take 6 (List.drop 0 (gC enR g))) true
  (Ob.cells true)) (4 : Int) + vLn (Row.mk (List.take 6 (List.drop 0 (gC enR g))) true (Ob.cells true)) (5 : Int)) /\ ((g2.4 = y.3) /\ ((g2.5 = y.4) /\ ((g2.6 = y.5) /\ ((Eq
  (α := List Value) (iCells IntKind.i64 g2.2) (iCells IntKind.i64 y.1)) /\ ((Plain (iCells IntKind.i64 g2.2)) /\ ((Eq (α := List Value) (iCells IntKind.i64 g2.7) (iCells
  IntKind.i64 (dI (Row.mk (iCells IntKind.i64 (dI (Row.mk (iCells IntKind.i64 (dI (Row.mk (iCells IntKind.i64 (dI (Row.mk (iCells IntKind.i64 (dI (Row.mk (iCells IntKind.i64
  ([] ++ vNs (Row.mk (List.take 6 (List.drop 0 (gC enR g))) true (Ob.cells true)) (0 : Int))) false (Ob.cells true)) ++ vNs (Row.mk (List.take 6 (List.drop 0 (gC enR g)))
  true (Ob.cells true)) (1 : Int))) false (Ob.cells true)) ++ vNs (Row.mk (List.take 6 (List.drop 0 (gC enR g))) true (Ob.cells true)) (2 : Int))) false (Ob.cells true)) ++
  vNs (Row.mk (List.take 6 (List.drop 0 (gC enR g))) true (Ob.cells true)) (3 : Int))) false (Ob.cells true)) ++ vNs (Row.mk (List.take 6 (List.drop 0 (gC enR g))) true
  (Ob.cells true)) (4 : Int))) false (Ob.cells true)) ++ vNs (Row.mk (List.take 6 (List.drop 0 (gC enR g))) true (Ob.cells true)) (5 : Int)))) /\ ((Plain (iCells IntKind.i64
  g2.7)) /\ ((g2.12 = (-2 : Int)) /\ ((g2.13 = (0 : Int)) /\ ((g2.14 = (0 : Int)) /\ ((g2.15 = false) /\ ((g2.9 = (2 : Int)) /\ ((g2.10 = (0 : Int)) /\ ((g2.11 = (0 : Int))
  /\ (∀ (y2 : Unit), ((True) → (∃ y3 : Unit, ((True) /\ ((true = true) /\ ((Eq (α := List Value) (gC enR rr) (gC enR g2.1)) /\ ((Plain (gC enR rr)) /\
  True)))))))))))))))))))))))))))))))))))))) ((true = true) /\ ((Value.agg (Array.mk [Value.int IntKind.i64 (vCode (Row.mk (List.take 6 (List.drop 0 (gC enR g))) true
  (Ob.cells true)) (5 : Int)), Value.int IntKind.i64 (vPos (Row.mk (List.take 6 (List.drop 0 (gC enR g))) true (Ob.cells true)) (5 : Int))]) = Value.agg (Array.mk [Value.int
  IntKind.i64 (vCode (Row.mk (List.take 6 (List.drop 0 (gC enR g))) true (Ob.cells true)) (5 : Int)), Value.int IntKind.i64 (vPos (Row.mk (List.take 6 (List.drop 0 (gC enR
  g))) true (Ob.cells true)) (5 : Int))])) /\ (∃ g2 : GH, ((PH g2) /\ ((0 = 0) /\ ((List.length g2.2 = List.length y.1) /\ ((0 = 0) /\ ((g2.3 = y.2) /\ ((0 = 0) /\ ((0 = 0)
  /\ ((0 = 0) /\ ((0 = 0) /\ ((0 = 0) /\ ((g2.8 = true) /\ ((Eq (α := List Value) (gC enR g2.1) (gC enR g)) /\ ((Plain (gC enR g2.1)) /\ ((0 = 0) /\ ((List.length g2.7 = 0 +
  vLn (Row.mk (List.take 6 (List.drop 0 (gC enR g))) true (Ob.cells true)) (0 : Int) + vLn (Row.mk (List.take 6 (List.drop 0 (gC enR g))) true (Ob.cells true)) (1 : Int) +
  vLn (Row.mk (List.take 6 (List.drop 0 (gC enR g))) true (Ob.cells true)) (2 : Int) + vLn (Row.mk (List.take 6 (List.drop 0 (gC enR g))) true (Ob.cells true)) (3 : Int) +
  vLn (Row.mk (List.take 6 (List.drop 0 (gC enR g))) true (Ob.cells true)) (4 : Int) + vLn (Row.mk (List.take 6 (List.drop 0 (gC enR g))) true (Ob.cells true)) (5 : Int)) /\
  ((g2.4 = y.3) /\ ((g2.5 = y.4) /\ ((g2.6 = y.5) /\ ((Eq (α := List Value) (iCells IntKind.i64 g2.2) (iCells IntKind.i64 y.1)) /\ ((Plain (iCells IntKind.i64 g2.2)) /\ ((Eq
  (α := List Value) (iCells IntKind.i64 g2.7) (iCells IntKind.i64 (dI (Row.mk (iCells IntKind.i64 (dI (Row.mk (iCells IntKind.i64 (dI (Row.mk (iCells IntKind.i64 (dI (Row.mk
  (iCells IntKind.i64 (dI (Row.mk (iCells IntKind.i64 ([] ++ vNs (Row.mk (List.take 6 (List.drop 0 (gC enR g))) true (Ob.cells true)) (0 : Int))) false (Ob.cells true)) ++
  vNs (Row.mk (List.take 6 (List.drop 0 (gC enR g))) true (Ob.cells true)) (1 : Int))) false (Ob.cells true)) ++ vNs (Row.mk (List.take 6 (List.drop 0 (gC enR g))) true
  (Ob.cells true)) (2 : Int))) false (Ob.cells true)) ++ vNs (Row.mk (List.take 6 (List.drop 0 (gC enR g))) true (Ob.cells true)) (3 : Int))) false (Ob.cells true)) ++ vNs
  (Row.mk (List.take 6 (List.drop 0 (gC enR g))) true (Ob.cells true)) (4 : Int))) false (Ob.cells true)) ++ vNs (Row.mk (List.take 6 (List.drop 0 (gC enR g))) true
  (Ob.cells true)) (5 : Int)))) /\ ((Plain (iCells IntKind.i64 g2.7)) /\ ((g2.12 = (5 : Int)) /\ ((g2.13 = vCode (Row.mk (List.take 6 (List.drop 0 (gC enR g))) true
  (Ob.cells true)) (5 : Int)) /\ ((g2.14 = vPos (Row.mk (List.take 6 (List.drop 0 (gC enR g))) true (Ob.cells true)) (5 : Int)) /\ ((g2.15 = true) /\ ((g2.9 = (0 : Int)) /\
  ((g2.10 = (0 : Int)) /\ ((g2.11 = (0 : Int)) /\ (∀ (y2 : Unit), ((True) → (∃ y3 : Unit, ((True) /\ ((true = true) /\ ((Eq (α := List Value) (gC enR rr) (gC enR g2.1)) /\
  ((Plain (gC enR rr)) /\ True)))))))))))))))))))))))))))))))))))))))))) (br (vRt (Row.mk (List.take 6 (List.drop 0 (gC enR g))) true (Ob.cells true)) (4 : Int)) ((noGo
  (PanicEntry.mk (Value.iface 10 (Value.string dS)) true false :: reps 10 dS (Int.toNat (vDep (Row.mk (List.take 6 (List.drop 0 (gC enR g))) true (Ob.cells true)) (4 :
  Int)))) = true) /\ (∃ g2 : GH, ((PH g2) /\ ((0 = 0) /\ ((List.length g2.2 = List.length y.1) /\ ((0 = 0) /\ ((g2.3 = y.2) /\ ((0 = 0) /\ ((0 = 0) /\ ((0 = 0) /\ ((0 = 0)
  /\ ((0 = 0) /\ ((g2.8 = true) /\ ((Eq (α := List Value) (gC enR g2.1) (gC enR g)) /\ ((Plain (gC enR g2.1)) /\ ((0 = 0) /\ ((List.length g2.7 = 0 + vLn (Row.mk (List.take
  6 (List.drop 0 (gC enR g))) true (Ob.cells true)) (0 : Int) + vLn (Row.mk (List.take 6 (List.drop 0 (gC enR g))) true (Ob.cells true)) (1 : Int) + vLn (Row.mk (List.take 6
  (List.drop 0 (gC enR g))) true (Ob.cells true)) (2 : Int) + vLn (Row.mk (List.take 6 (List.drop 0 (gC enR g))) true (Ob.cells true)) (3 : Int) + vLn (Row.mk (List.take 6
  (List.drop 0 (gC enR g))) true (Ob.cells true)) (4 : Int)) /\ ((g2.4 = y.3) /\ ((g2.5 = y.4) /\ ((g2.6 = y.5) /\ ((Eq (α := List Value) (iCells IntKind.i64 g2.2) (iCells
  IntKind.i64 y.1)) /\ ((Plain (iCells IntKind.i64 g2.2)) /\ ((Eq (α := List Value) (iCells IntKind.i64 g2.7) (iCells IntKind.i64 (dI (Row.mk (iCells IntKind.i64 (dI (Row.mk
  (iCells IntKind.i64 (dI (Row.mk (iCells IntKind.i64 (dI (Row.mk (iCells IntKind.i64 ([] ++ vNs (Row.mk (List.take 6 (List.drop 0 (gC enR g))) true (Ob.cells true)) (0 :
  Int))) false (Ob.cells true)) ++ vNs (Row.mk (List.take 6 (List.drop 0 (gC enR g))) true (Ob.cells true)) (1 : Int))) false (Ob.cells true)) ++ vNs (Row.mk (List.take 6
  (List.drop 0 (gC enR g))) true (Ob.cells true)) (2 : Int))) false (Ob.cells true)) ++ vNs (Row.mk (List.take 6 (List.drop 0 (gC enR g))) true (Ob.cells true)) (3 : Int)))
  false (Ob.cells true)) ++ vNs (Row.mk (List.take 6 (List.drop 0 (gC enR g))) true (Ob.cells true)) (4 : Int)))) /\ ((Plain (iCells IntKind.i64 g2.7)) /\ ((g2.12 = (-2 :
  Int)) /\ ((g2.13 = (0 : Int)) /\ ((g2.14 = (0 : Int)) /\ ((g2.15 = false) /\ ((g2.9 = (2 : Int)) /\ ((g2.10 = (0 : Int)) /\ ((g2.11 = (0 : Int)) /\ (∀ (y2 : Unit), ((True)
  → (∃ y3 : Unit, ((True) /\ ((true = true) /\ ((Eq (α := List Value) (gC enR rr) (gC enR g2.1)) /\ ((Plain (gC enR rr)) /\ True)))))))))))))))))))))))))))))))))))))) ((true
  = true) /\ ((Value.agg (Array.mk [Value.int IntKind.i64 (vCode (Row.mk (List.take 6 (List.drop 0 (gC enR g))) true (Ob.cells true)) (4 : Int)), Value.int IntKind.i64 (vPos
  (Row.mk (List.take 6 (List.drop 0 (gC enR g))) true (Ob.cells true)) (4 : Int))]) = Value.agg (Array.mk [Value.int IntKind.i64 (vCode (Row.mk (List.take 6 (List.drop 0 (gC
  enR g))) true (Ob.cells true)) (4 : Int)), Value.int IntKind.i64 (vPos (Row.mk (List.take 6 (List.drop 0 (gC enR g))) true (Ob.cells true)) (4 : Int))])) /\ (∃ g2 : GH,
  ((PH g2) /\ ((0 = 0) /\ ((List.length g2.2 = List.length y.1) /\ ((0 = 0) /\ ((g2.3 = y.2) /\ ((0 = 0) /\ ((0 = 0) /\ ((0 = 0) /\ ((0 = 0) /\ ((0 = 0) /\ ((g2.8 = true) /\
  ((Eq (α := List Value) (gC enR g2.1) (gC enR g)) /\ ((Plain (gC enR g2.1)) /\ ((0 = 0) /\ ((List.length g2.7 = 0 + vLn (Row.mk (List.take 6 (List.drop 0 (gC enR g))) true
  (Ob.cells true)) (0 : Int) + vLn (Row.mk (List.take 6 (List.drop 0 (gC enR g))) true (Ob.cells true)) (1 : Int) + vLn (Row.mk (List.take 6 (List.drop 0 (gC enR g))) true
  (Ob.cells true)) (2 : Int) + vLn (Row.mk (List.take 6 (List.drop 0 (gC enR g))) true (Ob.cells true)) (3 : Int) + vLn (Row.mk (List.take 6 (List.drop 0 (gC enR g))) true
  (Ob.cells true)) (4 : Int)) /\ ((g2.4 = y.3) /\ ((g2.5 = y.4) /\ ((g2.6 = y.5) /\ ((Eq (α := List Value) (iCells IntKind.i64 g2.2) (iCells IntKind.i64 y.1)) /\ ((Plain
  (iCells IntKind.i64 g2.2)) /\ ((Eq (α := List Value) (iCells IntKind.i64 g2.7) (iCells IntKind.i64 (dI (Row.mk (iCells IntKind.i64 (dI (Row.mk (iCells IntKind.i64 (dI
  (Row.mk (iCells IntKind.i64 (dI (Row.mk (iCells IntKind.i64 ([] ++ vNs (Row.mk (List.take 6 (List.drop 0 (gC enR g))) true (Ob.cells true)) (0 : Int))) false (Ob.cells
  true)) ++ vNs (Row.mk (List.take 6 (List.drop 0 (gC enR g))) true (Ob.cells true)) (1 : Int))) false (Ob.cells true)) ++ vNs (Row.mk (List.take 6 (List.drop 0 (gC enR g)))
  true (Ob.cells true)) (2 : Int))) false (Ob.cells true)) ++ vNs (Row.mk (List.take 6 (List.drop 0 (gC enR g))) true (Ob.cells true)) (3 : Int))) false (Ob.cells true)) ++
  vNs (Row.mk (List.take 6 (List.drop 0 (gC enR g))) true (Ob.cells true)) (4 : Int)))) /\ ((Plain (iCells IntKind.i64 g2.7)) /\ ((g2.12 = (4 : Int)) /\ ((g2.13 = vCode
  (Row.mk (List.take 6 (List.drop 0 (gC enR g))) true (Ob.cells true)) (4 : Int)) /\ ((g2.14 = vPos (Row.mk (List.take 6 (List.drop 0 (gC enR g))) true (Ob.cells true)) (4 :
  Int)) /\ ((g2.15 = true) /\ ((g2.9 = (0 : Int)) /\ ((g2.10 = (0 : Int)) /\ ((g2.11 = (0 : Int)) /\ (∀ (y2 : Unit), ((True) → (∃ y3 : Unit, ((True) /\ ((true = true) /\
  ((Eq (α := List Value) (gC enR rr) (gC enR g2.1)) /\ ((Plain (gC enR rr)) /\ True)))))))))))))))))))))))))))))))))))))))))) (br (vRt (Row.mk (List.take 6 (List.drop 0 (gC
  enR g))) true (Ob.cells true)) (3 : Int)) ((noGo (PanicEntry.mk (Value.iface 10 (Value.string dS)) true false :: reps 10 dS (Int.toNat (vDep (Row.mk (List.take 6
  (List.drop 0 (gC enR g))) true (Ob.cells true)) (3 : Int)))) = true) /\ (∃ g2 : GH, ((PH g2) /\ ((0 = 0) /\ ((List.length g2.2 = List.length y.1) /\ ((0 = 0) /\ ((g2.3 =
  y.2) /\ ((0 = 0) /\ ((0 = 0) /\ ((0 = 0) /\ ((0 = 0) /\ ((0 = 0) /\ ((g2.8 = true) /\ ((Eq (α := List Value) (gC enR g2.1) (gC enR g)) /\ ((Plain (gC enR g2.1)) /\ ((0 =
  0) /\ ((List.length g2.7 = 0 + vLn (Row.mk (List.take 6 (List.drop 0 (gC enR g))) true (Ob.cells true)) (0 : Int) + vLn (Row.mk (List.take 6 (List.drop 0 (gC enR g))) true
  (Ob.cells true)) (1 : Int) + vLn (Row.mk (List.take 6 (List.drop 0 (gC enR g))) true (Ob.cells true)) (2 : Int) + vLn (Row.mk (List.take 6 (List.drop 0 (gC enR g))) true
  (Ob.cells true)) (3 : Int)) /\ ((g2.4 = y.3) /\ ((g2.5 = y.4) /\ ((g2.6 = y.5) /\ ((Eq (α := List Value) (iCells IntKind.i64 g2.2) (iCells IntKind.i64 y.1)) /\ ((Plain
  (iCells IntKind.i64 g2.2)) /\ ((Eq (α := List Value) (iCells IntKind.i64 g2.7) (iCells IntKind.i64 (dI (Row.mk (iCells IntKind.i64 (dI (Row.mk (iCells IntKind.i64 (dI
  (Row.mk (iCells IntKind.i64 ([] ++ vNs (Row.mk (List.take 6 (List.drop 0 (gC enR g))) true (Ob.cells true)) (0 : Int))) false (Ob.cells true)) ++ vNs (Row.mk (List.take 6
  (List.drop 0 (gC enR g))) true (Ob.cells true)) (1 : Int))) false (Ob.cells true)) ++ vNs (Row.mk (List.take 6 (List.drop 0 (gC enR g))) true (Ob.cells true)) (2 : Int)))
  false (Ob.cells true)) ++ vNs (Row.mk (List.take 6 (List.drop 0 (gC enR g))) true (Ob.cells true)) (3 : Int)))) /\ ((Plain (iCells IntKind.i64 g2.7)) /\ ((g2.12 = (-2 :
  Int)) /\ ((g2.13 = (0 : Int)) /\ ((g2.14 = (0 : Int)) /\ ((g2.15 = false) /\ ((g2.9 = (2 : Int)) /\ ((g2.10 = (0 : Int)) /\ ((g2.11 = (0 : Int)) /\ (∀ (y2 : Unit), ((True)
  → (∃ y3 : Unit, ((True) /\ ((true = true) /\ ((Eq (α := List Value) (gC enR rr) (gC enR g2.1)) /\ ((Plain (gC enR rr)) /\ True)))))))))))))))))))))))))))))))))))))) ((true
  = true) /\ ((Value.agg (Array.mk [Value.int IntKind.i64 (vCode (Row.mk (List.take 6 (List.drop 0 (gC enR g))) true (Ob.cells true)) (3 : Int)), Value.int IntKind.i64 (vPos
  (Row.mk (List.take 6 (List.drop 0 (gC enR g))) true (Ob.cells true)) (3 : Int))]) = Value.agg (Array.mk [Value.int IntKind.i64 (vCode (Row.mk (List.take 6 (List.drop 0 (gC
  enR g))) true (Ob.cells true)) (3 : Int)), Value.int IntKind.i64 (vPos (Row.mk (List.take 6 (List.drop 0 (gC enR g))) true (Ob.cells true)) (3 : Int))])) /\ (∃ g2 : GH,
  ((PH g2) /\ ((0 = 0) /\ ((List.length g2.2 = List.length y.1) /\ ((0 = 0) /\ ((g2.3 = y.2) /\ ((0 = 0) /\ ((0 = 0) /\ ((0 = 0) /\ ((0 = 0) /\ ((0 = 0) /\ ((g2.8 = true) /\
  ((Eq (α := List Value) (gC enR g2.1) (gC enR g)) /\ ((Plain (gC enR g2.1)) /\ ((0 = 0) /\ ((List.length g2.7 = 0 + vLn (Row.mk (List.take 6 (List.drop 0 (gC enR g))) true
  (Ob.cells true)) (0 : Int) + vLn (Row.mk (List.take 6 (List.drop 0 (gC enR g))) true (Ob.cells true)) (1 : Int) + vLn (Row.mk (List.take 6 (List.drop 0 (gC enR g))) true
  (Ob.cells true)) (2 : Int) + vLn (Row.mk (List.take 6 (List.drop 0 (gC enR g))) true (Ob.cells true)) (3 : Int)) /\ ((g2.4 = y.3) /\ ((g2.5 = y.4) /\ ((g2.6 = y.5) /\ ((Eq
  (α := List Value) (iCells IntKind.i64 g2.2) (iCells IntKind.i64 y.1)) /\ ((Plain (iCells IntKind.i64 g2.2)) /\ ((Eq (α := List Value) (iCells IntKind.i64 g2.7) (iCells
  IntKind.i64 (dI (Row.mk (iCells IntKind.i64 (dI (Row.mk (iCells IntKind.i64 (dI (Row.mk (iCells IntKind.i64 ([] ++ vNs (Row.mk (List.take 6 (List.drop 0 (gC enR g))) true
  (Ob.cells true)) (0 : Int))) false (Ob.cells true)) ++ vNs (Row.mk (List.take 6 (List.drop 0 (gC enR g))) true (Ob.cells true)) (1 : Int))) false (Ob.cells true)) ++ vNs
  (Row.mk (List.take 6 (List.drop 0 (gC enR g))) true (Ob.cells true)) (2 : Int))) false (Ob.cells true)) ++ vNs (Row.mk (List.take 6 (List.drop 0 (gC enR g))) true
  (Ob.cells true)) (3 : Int)))) /\ ((Plain (iCells IntKind.i64 g2.7)) /\ ((g2.12 = (3 : Int)) /\ ((g2.13 = vCode (Row.mk (List.take 6 (List.drop 0 (gC enR g))) true
  (Ob.cells true)) (3 : Int)) /\ ((g2.14 = vPos (Row.mk (List.take 6 (List.drop 0 (gC enR g))) true (Ob.cells true)) (3 : Int)) /\ ((g2.15 = true) /\ ((g2.9 = (0 : Int)) /\
  ((g2.10 = (0 : Int)) /\ ((g2.11 = (0 : Int)) /\ (∀ (y2 : Unit), ((True) → (∃ y3 : Unit, ((True) /\ ((true = true) /\ ((Eq (α := List Value) (gC enR rr) (gC enR g2.1)) /\
  ((Plain (gC enR rr)) /\ True)))))))))))))))))))))))))))))))))))))))))) (br (vRt (Row.mk (List.take 6 (List.drop 0 (gC enR g))) true (Ob.cells true)) (2 : Int)) ((noGo
  (PanicEntry.mk (Value.iface 10 (Value.string dS)) true false :: reps 10 dS (Int.toNat (vDep (Row.mk (List.take 6 (List.drop 0 (gC enR g))) true (Ob.cells true)) (2 :
  Int)))) = true) /\ (∃ g2 : GH, ((PH g2) /\ ((0 = 0) /\ ((List.length g2.2 = List.length y.1) /\ ((0 = 0) /\ ((g2.3 = y.2) /\ ((0 = 0) /\ ((0 = 0) /\ ((0 = 0) /\ ((0 = 0)
  /\ ((0 = 0) /\ ((g2.8 = true) /\ ((Eq (α := List Value) (gC enR g2.1) (gC enR g)) /\ ((Plain (gC enR g2.1)) /\ ((0 = 0) /\ ((List.length g2.7 = 0 + vLn (Row.mk (List.take
  6 (List.drop 0 (gC enR g))) true (Ob.cells true)) (0 : Int) + vLn (Row.mk (List.take 6 (List.drop 0 (gC enR g))) true (Ob.cells true)) (1 : Int) + vLn (Row.mk (List.take 6
  (List.drop 0 (gC enR g))) true (Ob.cells true)) (2 : Int)) /\ ((g2.4 = y.3) /\ ((g2.5 = y.4) /\ ((g2.6 = y.5) /\ ((Eq (α := List Value) (iCells IntKind.i64 g2.2) (iCells
  IntKind.i64 y.1)) /\ ((Plain (iCells IntKind.i64 g2.2)) /\ ((Eq (α := List Value) (iCells IntKind.i64 g2.7) (iCells IntKind.i64 (dI (Row.mk (iCells IntKind.i64 (dI (Row.mk
  (iCells IntKind.i64 ([] ++ vNs (Row.mk (List.take 6 (List.drop 0 (gC enR g))) true (Ob.cells true)) (0 : Int))) false (Ob.cells true)) ++ vNs (Row.mk (List.take 6
  (List.drop 0 (gC enR g))) true (Ob.cells true)) (1 : Int))) false (Ob.cells true)) ++ vNs (Row.mk (List.take 6 (List.drop 0 (gC enR g))) true (Ob.cells true)) (2 : Int))))
  /\ ((Plain (iCells IntKind.i64 g2.7)) /\ ((g2.12 = (-2 : Int)) /\ ((g2.13 = (0 : Int)) /\ ((g2.14 = (0 : Int)) /\ ((g2.15 = false) /\ ((g2.9 = (2 : Int)) /\ ((g2.10 = (0 :
  Int)) /\ ((g2.11 = (0 : Int)) /\ (∀ (y2 : Unit), ((True) → (∃ y3 : Unit, ((True) /\ ((true = true) /\ ((Eq (α := List Value) (gC enR rr) (gC enR g2.1)) /\ ((Plain (gC enR
  rr)) /\ True)))))))))))))))))))))))))))))))))))))) ((true = true) /\ ((Value.agg (Array.mk [Value.int IntKind.i64 (vCode (Row.mk (List.take 6 (List.drop 0 (gC enR g)))
  true (Ob.cells true)) (2 : Int)), Value.int IntKind.i64 (vPos (Row.mk (List.take 6 (List.drop 0 (gC enR g))) true (Ob.cells true)) (2 : Int))]) = Value.agg (Array.mk
  [Value.int IntKind.i64 (vCode (Row.mk (List.take 6 (List.drop 0 (gC enR g))) true (Ob.cells true)) (2 : Int)), Value.int IntKind.i64 (vPos (Row.mk (List.take 6 (List.drop
  0 (gC enR g))) true (Ob.cells true)) (2 : Int))])) /\ (∃ g2 : GH, ((PH g2) /\ ((0 = 0) /\ ((List.length g2.2 = List.length y.1) /\ ((0 = 0) /\ ((g2.3 = y.2) /\ ((0 = 0) /\
  ((0 = 0) /\ ((0 = 0) /\ ((0 = 0) /\ ((0 = 0) /\ ((g2.8 = true) /\ ((Eq (α := List Value) (gC enR g2.1) (gC enR g)) /\ ((Plain (gC enR g2.1)) /\ ((0 = 0) /\ ((List.length
  g2.7 = 0 + vLn (Row.mk (List.take 6 (List.drop 0 (gC enR g))) true (Ob.cells true)) (0 : Int) + vLn (Row.mk (List.take 6 (List.drop 0 (gC enR g))) true (Ob.cells true)) (1
  : Int) + vLn (Row.mk (List.take 6 (List.drop 0 (gC enR g))) true (Ob.cells true)) (2 : Int)) /\ ((g2.4 = y.3) /\ ((g2.5 = y.4) /\ ((g2.6 = y.5) /\ ((Eq (α := List Value)
  (iCells IntKind.i64 g2.2) (iCells IntKind.i64 y.1)) /\ ((Plain (iCells IntKind.i64 g2.2)) /\ ((Eq (α := List Value) (iCells IntKind.i64 g2.7) (iCells IntKind.i64 (dI
  (Row.mk (iCells IntKind.i64 (dI (Row.mk (iCells IntKind.i64 ([] ++ vNs (Row.mk (List.take 6 (List.drop 0 (gC enR g))) true (Ob.cells true)) (0 : Int))) false (Ob.cells
  true)) ++ vNs (Row.mk (List.take 6 (List.drop 0 (gC enR g))) true (Ob.cells true)) (1 : Int))) false (Ob.cells true)) ++ vNs (Row.mk (List.take 6 (List.drop 0 (gC enR g)))
  true (Ob.cells true)) (2 : Int)))) /\ ((Plain (iCells IntKind.i64 g2.7)) /\ ((g2.12 = (2 : Int)) /\ ((g2.13 = vCode (Row.mk (List.take 6 (List.drop 0 (gC enR g))) true
  (Ob.cells true)) (2 : Int)) /\ ((g2.14 = vPos (Row.mk (List.take 6 (List.drop 0 (gC enR g))) true (Ob.cells true)) (2 : Int)) /\ ((g2.15 = true) /\ ((g2.9 = (0 : Int)) /\
  ((g2.10 = (0 : Int)) /\ ((g2.11 = (0 : Int)) /\ (∀ (y2 : Unit), ((True) → (∃ y3 : Unit, ((True) /\ ((true = true) /\ ((Eq (α := List Value) (gC enR rr) (gC enR g2.1)) /\
  ((Plain (gC enR rr)) /\ True)))))))))))))))))))))))))))))))))))))))))) (br (vRt (Row.mk (List.take 6 (List.drop 0 (gC enR g))) true (Ob.cells true)) (1 : Int)) ((noGo
  (PanicEntry.mk (Value.iface 10 (Value.string dS)) true false :: reps 10 dS (Int.toNat (vDep (Row.mk (List.take 6 (List.drop 0 (gC enR g))) true (Ob.cells true)) (1 :
  Int)))) = true) /\ (∃ g2 : GH, ((PH g2) /\ ((0 = 0) /\ ((List.length g2.2 = List.length y.1) /\ ((0 = 0) /\ ((g2.3 = y.2) /\ ((0 = 0) /\ ((0 = 0) /\ ((0 = 0) /\ ((0 = 0)
  /\ ((0 = 0) /\ ((g2.8 = true) /\ ((Eq (α := List Value) (gC enR g2.1) (gC enR g)) /\ ((Plain (gC enR g2.1)) /\ ((0 = 0) /\ ((List.length g2.7 = 0 + vLn (Row.mk (List.take
  6 (List.drop 0 (gC enR g))) true (Ob.cells true)) (0 : Int) + vLn (Row.mk (List.take 6 (List.drop 0 (gC enR g))) true (Ob.cells true)) (1 : Int)) /\ ((g2.4 = y.3) /\
  ((g2.5 = y.4) /\ ((g2.6 = y.5) /\ ((Eq (α := List Value) (iCells IntKind.i64 g2.2) (iCells IntKind.i64 y.1)) /\ ((Plain (iCells IntKind.i64 g2.2)) /\ ((Eq (α := List
  Value) (iCells IntKind.i64 g2.7) (iCells IntKind.i64 (dI (Row.mk (iCells IntKind.i64 ([] ++ vNs (Row.mk (List.take 6 (List.drop 0 (gC enR g))) true (Ob.cells true)) (0 :
  Int))) false (Ob.cells true)) ++ vNs (Row.mk (List.take 6 (List.drop 0 (gC enR g))) true (Ob.cells true)) (1 : Int)))) /\ ((Plain (iCells IntKind.i64 g2.7)) /\ ((g2.12 =
  (-2 : Int)) /\ ((g2.13 = (0 : Int)) /\ ((g2.14 = (0 : Int)) /\ ((g2.15 = false) /\ ((g2.9 = (2 : Int)) /\ ((g2.10 = (0 : Int)) /\ ((g2.11 = (0 : Int)) /\ (∀ (y2 : Unit),
  ((True) → (∃ y3 : Unit, ((True) /\ ((true = true) /\ ((Eq (α := List Value) (gC enR rr) (gC enR g2.1)) /\ ((Plain (gC enR rr)) /\
  True)))))))))))))))))))))))))))))))))))))) ((true = true) /\ ((Value.agg (Array.mk [Value.int IntKind.i64 (vCode (Row.mk (List.take 6 (List.drop 0 (gC enR g))) true
  (Ob.cells true)) (1 : Int)), Value.int IntKind.i64 (vPos (Row.mk (List.take 6 (List.drop 0 (gC enR g))) true (Ob.cells true)) (1 : Int))]) = Value.agg (Array.mk [Value.int
  IntKind.i64 (vCode (Row.mk (List.take 6 (List.drop 0 (gC enR g))) true (Ob.cells true)) (1 : Int)), Value.int IntKind.i64 (vPos (Row.mk (List.take 6 (List.drop 0 (gC enR
  g))) true (Ob.cells true)) (1 : Int))])) /\ (∃ g2 : GH, ((PH g2) /\ ((0 = 0) /\ ((List.length g2.2 = List.length y.1) /\ ((0 = 0) /\ ((g2.3 = y.2) /\ ((0 = 0) /\ ((0 = 0)
  /\ ((0 = 0) /\ ((0 = 0) /\ ((0 = 0) /\ ((g2.8 = true) /\ ((Eq (α := List Value) (gC enR g2.1) (gC enR g)) /\ ((Plain (gC enR g2.1)) /\ ((0 = 0) /\ ((List.length g2.7 = 0 +
  vLn (Row.mk (List.take 6 (List.drop 0 (gC enR g))) true (Ob.cells true)) (0 : Int) + vLn (Row.mk (List.take 6 (List.drop 0 (gC enR g))) true (Ob.cells true)) (1 : Int)) /\
  ((g2.4 = y.3) /\ ((g2.5 = y.4) /\ ((g2.6 = y.5) /\ ((Eq (α := List Value) (iCells IntKind.i64 g2.2) (iCells IntKind.i64 y.1)) /\ ((Plain (iCells IntKind.i64 g2.2)) /\ ((Eq
  (α := List Value) (iCells IntKind.i64 g2.7) (iCells IntKind.i64 (dI (Row.mk (iCells IntKind.i64 ([] ++ vNs (Row.mk (List.take 6 (List.drop 0 (gC enR g))) true (Ob.cells
  true)) (0 : Int))) false (Ob.cells true)) ++ vNs (Row.mk (List.take 6 (List.drop 0 (gC enR g))) true (Ob.cells true)) (1 : Int)))) /\ ((Plain (iCells IntKind.i64 g2.7)) /\
  ((g2.12 = (1 : Int)) /\ ((g2.13 = vCode (Row.mk (List.take 6 (List.drop 0 (gC enR g))) true (Ob.cells true)) (1 : Int)) /\ ((g2.14 = vPos (Row.mk (List.take 6 (List.drop 0
  (gC enR g))) true (Ob.cells true)) (1 : Int)) /\ ((g2.15 = true) /\ ((g2.9 = (0 : Int)) /\ ((g2.10 = (0 : Int)) /\ ((g2.11 = (0 : Int)) /\ (∀ (y2 : Unit), ((True) → (∃ y3
  : Unit, ((True) /\ ((true = true) /\ ((Eq (α := List Value) (gC enR rr) (gC enR g2.1)) /\ ((Plain (gC enR rr)) /\ True)))))))))))))))))))))))))))))))))))))))))) (br (vRt
  (Row.mk (List.take 6 (List.drop 0 (gC enR g))) true (Ob.cells true)) (0 : Int)) ((noGo (PanicEntry.mk (Value.iface 10 (Value.string dS)) true false :: reps 10 dS
  (Int.toNat (vDep (Row.mk (List.take 6 (List.drop 0 (gC enR g))) true (Ob.cells true)) (0 : Int)))) = true) /\ (∃ g2 : GH, ((PH g2) /\ ((0 = 0) /\ ((List.length g2.2 =
  List.length y.1) /\ ((0 = 0) /\ ((g2.3 = y.2) /\ ((0 = 0) /\ ((0 = 0) /\ ((0 = 0) /\ ((0 = 0) /\ ((0 = 0) /\ ((g2.8 = true) /\ ((Eq (α := List Value) (gC enR g2.1) (gC enR
  g)) /\ ((Plain (gC enR g2.1)) /\ ((0 = 0) /\ ((List.length g2.7 = 0 + vLn (Row.mk (List.take 6 (List.drop 0 (gC enR g))) true (Ob.cells true)) (0 : Int)) /\ ((g2.4 = y.3)
  /\ ((g2.5 = y.4) /\ ((g2.6 = y.5) /\ ((Eq (α := List Value) (iCells IntKind.i64 g2.2) (iCells IntKind.i64 y.1)) /\ ((Plain (iCells IntKind.i64 g2.2)) /\ ((Eq (α := List
  Value) (iCells IntKind.i64 g2.7) (iCells IntKind.i64 ([] ++ vNs (Row.mk (List.take 6 (List.drop 0 (gC enR g))) true (Ob.cells true)) (0 : Int)))) /\ ((Plain (iCells
  IntKind.i64 g2.7)) /\ ((g2.12 = (-2 : Int)) /\ ((g2.13 = (0 : Int)) /\ ((g2.14 = (0 : Int)) /\ ((g2.15 = false) /\ ((g2.9 = (2 : Int)) /\ ((g2.10 = (0 : Int)) /\ ((g2.11 =
  (0 : Int)) /\ (∀ (y2 : Unit), ((True) → (∃ y3 : Unit, ((True) /\ ((true = true) /\ ((Eq (α := List Value) (gC enR rr) (gC enR g2.1)) /\ ((Plain (gC enR rr)) /\
  True)))))))))))))))))))))))))))))))))))))) ((true = true) /\ ((Value.agg (Array.mk [Value.int IntKind.i64 (vCode (Row.mk (List.take 6 (List.drop 0 (gC enR g))) true
  (Ob.cells true)) (0 : Int)), Value.int IntKind.i64 (vPos (Row.mk (List.take 6 (List.drop 0 (gC enR g))) true (Ob.cells true)) (0 : Int))]) = Value.agg (Array.mk [Value.int
  IntKind.i64 (vCode (Row.mk (List.take 6 (List.drop 0 (gC enR g))) true (Ob.cells true)) (0 : Int)), Value.int IntKind.i64 (vPos (Row.mk (List.take 6 (List.drop 0 (gC enR
  g))) true (Ob.cells true)) (0 : Int))])) /\ (∃ g2 : GH, ((PH g2) /\ ((0 = 0) /\ ((List.length g2.2 = List.length y.1) /\ ((0 = 0) /\ ((g2.3 = y.2) /\ ((0 = 0) /\ ((0 = 0)
  /\ ((0 = 0) /\ ((0 = 0) /\ ((0 = 0) /\ ((g2.8 = true) /\ ((Eq (α := List Value) (gC enR g2.1) (gC enR g)) /\ ((Plain (gC enR g2.1)) /\ ((0 = 0) /\ ((List.length g2.7 = 0 +
  vLn (Row.mk (List.take 6 (List.drop 0 (gC enR g))) true (Ob.cells true)) (0 : Int)) /\ ((g2.4 = y.3) /\ ((g2.5 = y.4) /\ ((g2.6 = y.5) /\ ((Eq (α := List Value) (iCells
  IntKind.i64 g2.2) (iCells IntKind.i64 y.1)) /\ ((Plain (iCells IntKind.i64 g2.2)) /\ ((Eq (α := List Value) (iCells IntKind.i64 g2.7) (iCells IntKind.i64 ([] ++ vNs
  (Row.mk (List.take 6 (List.drop 0 (gC enR g))) true (Ob.cells true)) (0 : Int)))) /\ ((Plain (iCells IntKind.i64 g2.7)) /\ ((g2.12 = (0 : Int)) /\ ((g2.13 = vCode (Row.mk
  (List.take 6 (List.drop 0 (gC enR g))) true (Ob.cells true)) (0 : Int)) /\ ((g2.14 = vPos (Row.mk (List.take 6 (List.drop 0 (gC enR g))) true (Ob.cells true)) (0 : Int))
  /\ ((g2.15 = true) /\ ((g2.9 = (0 : Int)) /\ ((g2.10 = (0 : Int)) /\ ((g2.11 = (0 : Int)) /\ (∀ (y2 : Unit), ((True) → (∃ y3 : Unit, ((True) /\ ((true = true) /\ ((Eq (α
  := List Value) (gC enR rr) (gC enR g2.1)) /\ ((Plain (gC enR rr)) /\ True)))))))))))))))))))))))))))))))))))))))))))))))))))))))))))) := by kernel_rfl
theorem sb_take (rr : List (List Ac)) (n j : Nat) (h : j < n) : sbR (rr.take n) j = sbR rr j := by
  unfold sbR
  rw [List.getD_eq_getElem?_getD, List.getD_eq_getElem?_getD, List.getElem?_take, if_pos h]
theorem z_vj (rr : List (List Ac)) (n j : Nat) (h : j < n) (i : Int) (hi : i = (j : Nat)) : vOk ⟨gC enR (rr.take n), true, .cells true⟩ i = decide ((tl (sbR rr j)).how = 0) ∧ vRt ⟨gC enR (rr.take n), true, .cells true⟩ i = decide ((tl (sbR rr j)).how = 2) ∧ vCode ⟨gC enR (rr.take n), true, .cells true⟩ i = (tl (sbR rr j)).code ∧ vPos ⟨gC enR (rr.take n), true, .cells true⟩ i = (tl (sbR rr j)).pos ∧ vDep ⟨gC enR (rr.take n), true, .cells true⟩ i = ((tl (sbR rr j)).dep : Nat) ∧ vNs ⟨gC enR (rr.take n), true, .cells true⟩ i = (tl (sbR rr j)).ns ∧ vLn ⟨gC enR (rr.take n), true, .cells true⟩ i = (tl (sbR rr j)).ns.length := by
  subst hi
  have := z_v (rr.take n) j
  rwa [sb_take rr n j h] at this
theorem sb_len (rr : List (List Ac)) (j : Nat) : (tl (sbR rr j)).ns.length ≤ 36 := by
  have := tl_len _ (sbR rr j) (Nat.le_refl _)
  have : (sbR rr j).length ≤ 12 := by unfold sbR; rw [List.length_take]; omega
  omega
theorem isF_of (rr : List (List Ac)) (n : Nat) (hn : n ≤ rr.length) (ho : ∀ l ∈ rr, OkR l) (i : Int) (h1 : 0 ≤ i) (h2 : i < (n : Nat)) (m : Nat) (hm : m ≤ 1000000) : IsF ⟨gC enR (rr.take n), true, .cells true⟩ n i m :=
  ⟨_, rfl, h1, h2, by rw [List.length_take]; omega, fun l hl => ho l (List.mem_of_mem_take hl), hm⟩
theorem isZ_of (z : List Int) (n : Nat) (h : n = z.length) : IsZ ⟨iCells .i64 z, false, .cells true⟩ n := ⟨z, rfl, h⟩
theorem isZ_0 : IsZ ⟨[], false, .cells true⟩ 0 := ⟨[], rfl, rfl⟩
theorem leafG (rr : List (List Ac)) (y : FR) (z : List Int) (m : Nat) (k fc fp : Int) (is : Bool) (eh ec ep : Int) (hm : z.length = m) (hp : PH ⟨rr, y.ns, y.pl, y.h, y.c, y.p, z, true, eh, ec, ep, k, fc, fp, is⟩) :
    ∃ g2 : GH, PH g2 ∧ g2.w.length = y.ns.length ∧ g2.pl = y.pl ∧ g2.ok = true ∧ gC enR g2.rr = gC enR rr ∧ g2.z.length = m ∧ g2.h = y.h ∧ g2.c = y.c ∧ g2.p = y.p ∧ iCells .i64 g2.w = iCells .i64 y.ns ∧ iCells .i64 g2.z = iCells .i64 z ∧ g2.k = k ∧ g2.fc = fc ∧ g2.fp = fp ∧ g2.is = is ∧ g2.eh = eh ∧ g2.ec = ec ∧ g2.ep = ep ∧ ∀ (y2 : Unit), True → ∃ y3 : Unit, gC enR rr = gC enR g2.rr :=
  ⟨_, hp, rfl, rfl, rfl, rfl, hm, rfl, rfl, rfl, rfl, rfl, rfl, rfl, rfl, rfl, rfl, rfl, rfl, fun _ _ => ⟨(), rfl⟩⟩
theorem noGo_c (v : Value) (r : Bool) (l : List PanicEntry) : noGo (⟨v, r, false⟩ :: l) = noGo l := rfl
set_option maxHeartbeats 4000000 in
theorem G0 (rr : List (List Ac)) (hn : 0 ≤ rr.length) (ho : ∀ l ∈ rr, OkR l) : mlG rr 0 (Sy.endsIn 1 130 (wsG rr)) := by
  refine (G0_vc rr).mpr ⟨rr, ⟨(show (0 : Nat) ≤ 8 by decide), hn, ho⟩, rfl, rfl, rfl, rfl, rfl, rfl, rfl, rPl _, rfl, rfl, rfl, rfl, rfl, rfl, fun y hy => ?_⟩
  have hy : y = ftl [] 0 := hy
  have hl : 0 ≤ (gC enR rr).length := by rw [rLen]; omega
  have ht : (gC enR rr).take 0 = gC enR (rr.take 0) := gC_take (en := enR) (k := 1) (fun _ => rfl) rr 0
  have iF := isF_of rr 0 hn ho
  simp only [ht, ofNat_eq, toNat_cast, Nat.zero_add, Nat.add_zero, Nat.mul_one, List.drop_zero, bCells_len, bCells_drop, bCells_take, bCells_app, bCells_one, bCells_plain, List.length_replicate, List.length_append, List.length_take, List.length_drop, List.take_length, and_true, true_and, and_self, decide_true, List.length_nil, List.length_cons, Nat.sub_zero, dB_mk, dB_ro, List.take_zero, rPl, dI_mk, iCells_plain, List.nil_append, noGo_c, noGo_reps]
  have pn : Plain [] := fun v hv => by simp at hv
  refine leafG rr y [] _ _ _ _ _ _ _ _ ?_ ?_
  · rfl
  · simp [ftl] at hy
    subst hy
    exact ⟨rfl, rfl, by simp, .inr ⟨by simp, rfl, rfl, by simp, .inl ⟨by simp, rfl, rfl⟩⟩⟩
set_option maxHeartbeats 4000000 in
theorem G1 (rr : List (List Ac)) (hn : 1 ≤ rr.length) (ho : ∀ l ∈ rr, OkR l) : mlG rr 1 (Sy.endsIn 1 130 (wsG rr)) := by
  refine (G1_vc rr).mpr ⟨rr, ⟨(show (1 : Nat) ≤ 8 by decide), hn, ho⟩, rfl, rfl, rfl, rfl, rfl, rfl, rfl, rPl _, rfl, rfl, rfl, rfl, rfl, rfl, fun y hy => ?_⟩
  have hy : y = ftl [sbR rr 0] 0 := hy
  have hl : 1 ≤ (gC enR rr).length := by rw [rLen]; omega
  have ht : (gC enR rr).take 1 = gC enR (rr.take 1) := gC_take (en := enR) (k := 1) (fun _ => rfl) rr 1
  obtain ⟨a0, b0, c0, d0, e0, f0, g0⟩ := z_vj rr 1 0 (by decide) 0 (by decide)
  have n0 := sb_len rr 0
  have z0 := tl_zero _ (sbR rr 0) (Nat.le_refl _)
  have w0 := tl_two _ (sbR rr 0) (Nat.le_refl _)
  have iF := isF_of rr 1 hn ho
  simp only [ht, a0, b0, c0, d0, e0, f0, g0, ofNat_eq, toNat_cast, Nat.zero_add, Nat.add_zero, Nat.mul_one, List.drop_zero, bCells_len, bCells_drop, bCells_take, bCells_app, bCells_one, bCells_plain, List.length_replicate, List.length_append, List.length_take, List.length_drop, List.take_length, and_true, true_and, and_self, decide_true, List.length_nil, List.length_cons, Nat.sub_zero, dB_mk, dB_ro, List.take_zero, rPl, dI_mk, iCells_plain, List.nil_append, noGo_c, noGo_reps]
  have pn : Plain [] := fun v hv => by simp at hv
  refine ⟨⟨⟨hl, pn⟩, iF _ (by decide) (by decide) _ (by decide), isZ_0⟩, ?_⟩
  rcases z0 with ⟨o0, p0, q0⟩ | o0 | o0
  · refine br_b (by rw [o0]; rfl) ?_
    refine leafG rr y _ _ _ _ _ _ _ _ _ ?_ ?_
    · simp only [List.length_append, List.length_nil]
    · simp [ftl, o0, p0, q0] at hy
      subst hy
      exact ⟨rfl, by simp, by simp; omega, .inr ⟨by simp, rfl, rfl, by simp, .inl ⟨by simp, rfl, rfl⟩⟩⟩
  · refine br_nb (by rw [o0]; rfl) (br_nb (by rw [o0]; rfl) ?_)
    refine leafG rr y _ _ _ _ _ _ _ _ _ ?_ ?_
    · simp only [List.length_append, List.length_nil]
    · simp [ftl, o0] at hy
      subst hy
      exact ⟨rfl, by simp, by simp; omega, .inr ⟨by simp, rfl, by simp, by simp, .inr ⟨by simp, rfl, rfl⟩⟩⟩
  · obtain ⟨p0, q0⟩ := w0 o0
    refine br_nb (by rw [o0]; rfl) (br_b (by rw [o0]; rfl) ?_)
    refine leafG rr y _ _ _ _ _ _ _ _ _ ?_ ?_
    · simp only [List.length_append, List.length_nil]
    · simp [ftl, o0, p0, q0] at hy
      subst hy
      exact ⟨rfl, by simp, by simp; omega, .inl ⟨rfl, rfl, rfl, rfl⟩⟩
set_option maxHeartbeats 4000000 in
theorem G2 (rr : List (List Ac)) (hn : 2 ≤ rr.length) (ho : ∀ l ∈ rr, OkR l) : mlG rr 2 (Sy.endsIn 1 130 (wsG rr)) := by
  refine (G2_vc rr).mpr ⟨rr, ⟨(show (2 : Nat) ≤ 8 by decide), hn, ho⟩, rfl, rfl, rfl, rfl, rfl, rfl, rfl, rPl _, rfl, rfl, rfl, rfl, rfl, rfl, fun y hy => ?_⟩
  have hy : y = ftl [sbR rr 0, sbR rr 1] 0 := hy
  have hl : 2 ≤ (gC enR rr).length := by rw [rLen]; omega
  have ht : (gC enR rr).take 2 = gC enR (rr.take 2) := gC_take (en := enR) (k := 1) (fun _ => rfl) rr 2
  obtain ⟨a0, b0, c0, d0, e0, f0, g0⟩ := z_vj rr 2 0 (by decide) 0 (by decide)
  have n0 := sb_len rr 0
  have z0 := tl_zero _ (sbR rr 0) (Nat.le_refl _)
  have w0 := tl_two _ (sbR rr 0) (Nat.le_refl _)
  obtain ⟨a1, b1, c1, d1, e1, f1, g1⟩ := z_vj rr 2 1 (by decide) 1 (by decide)
  have n1 := sb_len rr 1
  have z1 := tl_zero _ (sbR rr 1) (Nat.le_refl _)
  have w1 := tl_two _ (sbR rr 1) (Nat.le_refl _)
  have iF := isF_of rr 2 hn ho
  simp only [ht, a0, b0, c0, d0, e0, f0, g0, a1, b1, c1, d1, e1, f1, g1, ofNat_eq, toNat_cast, Nat.zero_add, Nat.add_zero, Nat.mul_one, List.drop_zero, bCells_len, bCells_drop, bCells_take, bCells_app, bCells_one, bCells_plain, List.length_replicate, List.length_append, List.length_take, List.length_drop, List.take_length, and_true, true_and, and_self, decide_true, List.length_nil, List.length_cons, Nat.sub_zero, dB_mk, dB_ro, List.take_zero, rPl, dI_mk, iCells_plain, List.nil_append, noGo_c, noGo_reps]
  have pn : Plain [] := fun v hv => by simp at hv
  refine ⟨⟨⟨hl, pn⟩, iF _ (by decide) (by decide) _ (by decide), isZ_0⟩, ?_⟩
  rcases z0 with ⟨o0, p0, q0⟩ | o0 | o0
  · refine br_b (by rw [o0]; rfl) ?_
    refine ⟨⟨hl, iF _ (by decide) (by decide) _ (by omega), isZ_of _ _ (by simp only [List.length_append])⟩, ?_⟩
    rcases z1 with ⟨o1, p1, q1⟩ | o1 | o1
    · refine br_b (by rw [o1]; rfl) ?_
      refine leafG rr y _ _ _ _ _ _ _ _ _ ?_ ?_
      · simp only [List.length_append, List.length_nil]
      · simp [ftl, o0, p0, q0, o1, p1, q1] at hy
        subst hy
        exact ⟨rfl, by simp, by simp; omega, .inr ⟨by simp, rfl, rfl, by simp, .inl ⟨by simp, rfl, rfl⟩⟩⟩
    · refine br_nb (by rw [o1]; rfl) (br_nb (by rw [o1]; rfl) ?_)
      refine leafG rr y _ _ _ _ _ _ _ _ _ ?_ ?_
      · simp only [List.length_append, List.length_nil]
      · simp [ftl, o0, p0, q0, o1] at hy
        subst hy
        exact ⟨rfl, by simp, by simp; omega, .inr ⟨by simp, rfl, by simp, by simp, .inr ⟨by simp, rfl, rfl⟩⟩⟩
    · obtain ⟨p1, q1⟩ := w1 o1
      refine br_nb (by rw [o1]; rfl) (br_b (by rw [o1]; rfl) ?_)
      refine leafG rr y _ _ _ _ _ _ _ _ _ ?_ ?_
      · simp only [List.length_append, List.length_nil]
      · simp [ftl, o0, p0, q0, o1, p1, q1] at hy
        subst hy
        exact ⟨rfl, by simp, by simp; omega, .inl ⟨rfl, rfl, rfl, rfl⟩⟩
  · refine br_nb (by rw [o0]; rfl) (br_nb (by rw [o0]; rfl) ?_)
    refine leafG rr y _ _ _ _ _ _ _ _ _ ?_ ?_
    · simp only [List.length_append, List.length_nil]
    · simp [ftl, o0] at hy
      subst hy
      exact ⟨rfl, by simp, by simp; omega, .inr ⟨by simp, rfl, by simp, by simp, .inr ⟨by simp, rfl, rfl⟩⟩⟩
  · obtain ⟨p0, q0⟩ := w0 o0
    refine br_nb (by rw [o0]; rfl) (br_b (by rw [o0]; rfl) ?_)
    refine leafG rr y _ _ _ _ _ _ _ _ _ ?_ ?_
    · simp only [List.length_append, List.length_nil]
    · simp [ftl, o0, p0, q0] at hy
      subst hy
      exact ⟨rfl, by simp, by simp; omega, .inl ⟨rfl, rfl, rfl, rfl⟩⟩
set_option maxHeartbeats 4000000 in
theorem G3 (rr : List (List Ac)) (hn : 3 ≤ rr.length) (ho : ∀ l ∈ rr, OkR l) : mlG rr 3 (Sy.endsIn 1 130 (wsG rr)) := by
  refine (G3_vc rr).mpr ⟨rr, ⟨(show (3 : Nat) ≤ 8 by decide), hn, ho⟩, rfl, rfl, rfl, rfl, rfl, rfl, rfl, rPl _, rfl, rfl, rfl, rfl, rfl, rfl, fun y hy => ?_⟩
  have hy : y = ftl [sbR rr 0, sbR rr 1, sbR rr 2] 0 := hy
  have hl : 3 ≤ (gC enR rr).length := by rw [rLen]; omega
  have ht : (gC enR rr).take 3 = gC enR (rr.take 3) := gC_take (en := enR) (k := 1) (fun _ => rfl) rr 3
  obtain ⟨a0, b0, c0, d0, e0, f0, g0⟩ := z_vj rr 3 0 (by decide) 0 (by decide)
  have n0 := sb_len rr 0
  have z0 := tl_zero _ (sbR rr 0) (Nat.le_refl _)
  have w0 := tl_two _ (sbR rr 0) (Nat.le_refl _)
  obtain ⟨a1, b1, c1, d1, e1, f1, g1⟩ := z_vj rr 3 1 (by decide) 1 (by decide)
  have n1 := sb_len rr 1
  have z1 := tl_zero _ (sbR rr 1) (Nat.le_refl _)
  have w1 := tl_two _ (sbR rr 1) (Nat.le_refl _)
  obtain ⟨a2, b2, c2, d2, e2, f2, g2⟩ := z_vj rr 3 2 (by decide) 2 (by decide)
  have n2 := sb_len rr 2
  have z2 := tl_zero _ (sbR rr 2) (Nat.le_refl _)
  have w2 := tl_two _ (sbR rr 2) (Nat.le_refl _)
  have iF := isF_of rr 3 hn ho
  simp only [ht, a0, b0, c0, d0, e0, f0, g0, a1, b1, c1, d1, e1, f1, g1, a2, b2, c2, d2, e2, f2, g2, ofNat_eq, toNat_cast, Nat.zero_add, Nat.add_zero, Nat.mul_one, List.drop_zero, bCells_len, bCells_drop, bCells_take, bCells_app, bCells_one, bCells_plain, List.length_replicate, List.length_append, List.length_take, List.length_drop, List.take_length, and_true, true_and, and_self, decide_true, List.length_nil, List.length_cons, Nat.sub_zero, dB_mk, dB_ro, List.take_zero, rPl, dI_mk, iCells_plain, List.nil_append, noGo_c, noGo_reps]
  have pn : Plain [] := fun v hv => by simp at hv
  refine ⟨⟨⟨hl, pn⟩, iF _ (by decide) (by decide) _ (by decide), isZ_0⟩, ?_⟩
  rcases z0 with ⟨o0, p0, q0⟩ | o0 | o0
  · refine br_b (by rw [o0]; rfl) ?_
    refine ⟨⟨hl, iF _ (by decide) (by decide) _ (by omega), isZ_of _ _ (by simp only [List.length_append])⟩, ?_⟩
    rcases z1 with ⟨o1, p1, q1⟩ | o1 | o1
    · refine br_b (by rw [o1]; rfl) ?_
      refine ⟨⟨hl, iF _ (by decide) (by decide) _ (by omega), isZ_of _ _ (by simp only [List.length_append])⟩, ?_⟩
      rcases z2 with ⟨o2, p2, q2⟩ | o2 | o2
      · refine br_b (by rw [o2]; rfl) ?_
        refine leafG rr y _ _ _ _ _ _ _ _ _ ?_ ?_
        · simp only [List.length_append, List.length_nil]
        · simp [ftl, o0, p0, q0, o1, p1, q1, o2, p2, q2] at hy
          subst hy
          exact ⟨rfl, by simp, by simp; omega, .inr ⟨by simp, rfl, rfl, by simp, .inl ⟨by simp, rfl, rfl⟩⟩⟩
      · refine br_nb (by rw [o2]; rfl) (br_nb (by rw [o2]; rfl) ?_)
        refine leafG rr y _ _ _ _ _ _ _ _ _ ?_ ?_
        · simp only [List.length_append, List.length_nil]
        · simp [ftl, o0, p0, q0, o1, p1, q1, o2] at hy
          subst hy
          exact ⟨rfl, by simp, by simp; omega, .inr ⟨by simp, rfl, by simp, by simp, .inr ⟨by simp, rfl, rfl⟩⟩⟩
      · obtain ⟨p2, q2⟩ := w2 o2
        refine br_nb (by rw [o2]; rfl) (br_b (by rw [o2]; rfl) ?_)
        refine leafG rr y _ _ _ _ _ _ _ _ _ ?_ ?_
        · simp only [List.length_append, List.length_nil]
        · simp [ftl, o0, p0, q0, o1, p1, q1, o2, p2, q2] at hy
          subst hy
          exact ⟨rfl, by simp, by simp; omega, .inl ⟨rfl, rfl, rfl, rfl⟩⟩
    · refine br_nb (by rw [o1]; rfl) (br_nb (by rw [o1]; rfl) ?_)
      refine leafG rr y _ _ _ _ _ _ _ _ _ ?_ ?_
      · simp only [List.length_append, List.length_nil]
      · simp [ftl, o0, p0, q0, o1] at hy
        subst hy
        exact ⟨rfl, by simp, by simp; omega, .inr ⟨by simp, rfl, by simp, by simp, .inr ⟨by simp, rfl, rfl⟩⟩⟩
    · obtain ⟨p1, q1⟩ := w1 o1
      refine br_nb (by rw [o1]; rfl) (br_b (by rw [o1]; rfl) ?_)
      refine leafG rr y _ _ _ _ _ _ _ _ _ ?_ ?_
      · simp only [List.length_append, List.length_nil]
      · simp [ftl, o0, p0, q0, o1, p1, q1] at hy
        subst hy
        exact ⟨rfl, by simp, by simp; omega, .inl ⟨rfl, rfl, rfl, rfl⟩⟩
  · refine br_nb (by rw [o0]; rfl) (br_nb (by rw [o0]; rfl) ?_)
    refine leafG rr y _ _ _ _ _ _ _ _ _ ?_ ?_
    · simp only [List.length_append, List.length_nil]
    · simp [ftl, o0] at hy
      subst hy
      exact ⟨rfl, by simp, by simp; omega, .inr ⟨by simp, rfl, by simp, by simp, .inr ⟨by simp, rfl, rfl⟩⟩⟩
  · obtain ⟨p0, q0⟩ := w0 o0
    refine br_nb (by rw [o0]; rfl) (br_b (by rw [o0]; rfl) ?_)
    refine leafG rr y _ _ _ _ _ _ _ _ _ ?_ ?_
    · simp only [List.length_append, List.length_nil]
    · simp [ftl, o0, p0, q0] at hy
      subst hy
      exact ⟨rfl, by simp, by simp; omega, .inl ⟨rfl, rfl, rfl, rfl⟩⟩
set_option maxHeartbeats 4000000 in
theorem G4 (rr : List (List Ac)) (hn : 4 ≤ rr.length) (ho : ∀ l ∈ rr, OkR l) : mlG rr 4 (Sy.endsIn 1 130 (wsG rr)) := by
  refine (G4_vc rr).mpr ⟨rr, ⟨(show (4 : Nat) ≤ 8 by decide), hn, ho⟩, rfl, rfl, rfl, rfl, rfl, rfl, rfl, rPl _, rfl, rfl, rfl, rfl, rfl, rfl, fun y hy => ?_⟩
  have hy : y = ftl [sbR rr 0, sbR rr 1, sbR rr 2, sbR rr 3] 0 := hy
  have hl : 4 ≤ (gC enR rr).length := by rw [rLen]; omega
  have ht : (gC enR rr).take 4 = gC enR (rr.take 4) := gC_take (en := enR) (k := 1) (fun _ => rfl) rr 4
  obtain ⟨a0, b0, c0, d0, e0, f0, g0⟩ := z_vj rr 4 0 (by decide) 0 (by decide)
  have n0 := sb_len rr 0
  have z0 := tl_zero _ (sbR rr 0) (Nat.le_refl _)
  have w0 := tl_two _ (sbR rr 0) (Nat.le_refl _)
  obtain ⟨a1, b1, c1, d1, e1, f1, g1⟩ := z_vj rr 4 1 (by decide) 1 (by decide)
  have n1 := sb_len rr 1
  have z1 := tl_zero _ (sbR rr 1) (Nat.le_refl _)
  have w1 := tl_two _ (sbR rr 1) (Nat.le_refl _)
  obtain ⟨a2, b2, c2, d2, e2, f2, g2⟩ := z_vj rr 4 2 (by decide) 2 (by decide)
  have n2 := sb_len rr 2
  have z2 := tl_zero _ (sbR rr 2) (Nat.le_refl _)
  have w2 := tl_two _ (sbR rr 2) (Nat.le_refl _)
  obtain ⟨a3, b3, c3, d3, e3, f3, g3⟩ := z_vj rr 4 3 (by decide) 3 (by decide)
  have n3 := sb_len rr 3
  have z3 := tl_zero _ (sbR rr 3) (Nat.le_refl _)
  have w3 := tl_two _ (sbR rr 3) (Nat.le_refl _)
  have iF := isF_of rr 4 hn ho
  simp only [ht, a0, b0, c0, d0, e0, f0, g0, a1, b1, c1, d1, e1, f1, g1, a2, b2, c2, d2, e2, f2, g2, a3, b3, c3, d3, e3, f3, g3, ofNat_eq, toNat_cast, Nat.zero_add, Nat.add_zero, Nat.mul_one, List.drop_zero, bCells_len, bCells_drop, bCells_take, bCells_app, bCells_one, bCells_plain, List.length_replicate, List.length_append, List.length_take, List.length_drop, List.take_length, and_true, true_and, and_self, decide_true, List.length_nil, List.length_cons, Nat.sub_zero, dB_mk, dB_ro, List.take_zero, rPl, dI_mk, iCells_plain, List.nil_append, noGo_c, noGo_reps]
  have pn : Plain [] := fun v hv => by simp at hv
  refine ⟨⟨⟨hl, pn⟩, iF _ (by decide) (by decide) _ (by decide), isZ_0⟩, ?_⟩
  rcases z0 with ⟨o0, p0, q0⟩ | o0 | o0
  · refine br_b (by rw [o0]; rfl) ?_
    refine ⟨⟨hl, iF _ (by decide) (by decide) _ (by omega), isZ_of _ _ (by simp only [List.length_append])⟩, ?_⟩
    rcases z1 with ⟨o1, p1, q1⟩ | o1 | o1
    · refine br_b (by rw [o1]; rfl) ?_
      refine ⟨⟨hl, iF _ (by decide) (by decide) _ (by omega), isZ_of _ _ (by simp only [List.length_append])⟩, ?_⟩
      rcases z2 with ⟨o2, p2, q2⟩ | o2 | o2
      · refine br_b (by rw [o2]; rfl) ?_
        refine ⟨⟨hl, iF _ (by decide) (by decide) _ (by omega), isZ_of _ _ (by simp only [List.length_append])⟩, ?_⟩
        rcases z3 with ⟨o3, p3, q3⟩ | o3 | o3
        · refine br_b (by rw [o3]; rfl) ?_
          refine leafG rr y _ _ _ _ _ _ _ _ _ ?_ ?_
          · simp only [List.length_append, List.length_nil]
          · simp [ftl, o0, p0, q0, o1, p1, q1, o2, p2, q2, o3, p3, q3] at hy
            subst hy
            exact ⟨rfl, by simp, by simp; omega, .inr ⟨by simp, rfl, rfl, by simp, .inl ⟨by simp, rfl, rfl⟩⟩⟩
        · refine br_nb (by rw [o3]; rfl) (br_nb (by rw [o3]; rfl) ?_)
          refine leafG rr y _ _ _ _ _ _ _ _ _ ?_ ?_
          · simp only [List.length_append, List.length_nil]
          · simp [ftl, o0, p0, q0, o1, p1, q1, o2, p2, q2, o3] at hy
            subst hy
            exact ⟨rfl, by simp, by simp; omega, .inr ⟨by simp, rfl, by simp, by simp, .inr ⟨by simp, rfl, rfl⟩⟩⟩
        · obtain ⟨p3, q3⟩ := w3 o3
          refine br_nb (by rw [o3]; rfl) (br_b (by rw [o3]; rfl) ?_)
          refine leafG rr y _ _ _ _ _ _ _ _ _ ?_ ?_
          · simp only [List.length_append, List.length_nil]
          · simp [ftl, o0, p0, q0, o1, p1, q1, o2, p2, q2, o3, p3, q3] at hy
            subst hy
            exact ⟨rfl, by simp, by simp; omega, .inl ⟨rfl, rfl, rfl, rfl⟩⟩
      · refine br_nb (by rw [o2]; rfl) (br_nb (by rw [o2]; rfl) ?_)
        refine leafG rr y _ _ _ _ _ _ _ _ _ ?_ ?_
        · simp only [List.length_append, List.length_nil]
        · simp [ftl, o0, p0, q0, o1, p1, q1, o2] at hy
          subst hy
          exact ⟨rfl, by simp, by simp; omega, .inr ⟨by simp, rfl, by simp, by simp, .inr ⟨by simp, rfl, rfl⟩⟩⟩
      · obtain ⟨p2, q2⟩ := w2 o2
        refine br_nb (by rw [o2]; rfl) (br_b (by rw [o2]; rfl) ?_)
        refine leafG rr y _ _ _ _ _ _ _ _ _ ?_ ?_
        · simp only [List.length_append, List.length_nil]
        · simp [ftl, o0, p0, q0, o1, p1, q1, o2, p2, q2] at hy
          subst hy
          exact ⟨rfl, by simp, by simp; omega, .inl ⟨rfl, rfl, rfl, rfl⟩⟩
    · refine br_nb (by rw [o1]; rfl) (br_nb (by rw [o1]; rfl) ?_)
      refine leafG rr y _ _ _ _ _ _ _ _ _ ?_ ?_
      · simp only [List.length_append, List.length_nil]
      · simp [ftl, o0, p0, q0, o1] at hy
        subst hy
        exact ⟨rfl, by simp, by simp; omega, .inr ⟨by simp, rfl, by simp, by simp, .inr ⟨by simp, rfl, rfl⟩⟩⟩
    · obtain ⟨p1, q1⟩ := w1 o1
      refine br_nb (by rw [o1]; rfl) (br_b (by rw [o1]; rfl) ?_)
      refine leafG rr y _ _ _ _ _ _ _ _ _ ?_ ?_
      · simp only [List.length_append, List.length_nil]
      · simp [ftl, o0, p0, q0, o1, p1, q1] at hy
        subst hy
        exact ⟨rfl, by simp, by simp; omega, .inl ⟨rfl, rfl, rfl, rfl⟩⟩
  · refine br_nb (by rw [o0]; rfl) (br_nb (by rw [o0]; rfl) ?_)
    refine leafG rr y _ _ _ _ _ _ _ _ _ ?_ ?_
    · simp only [List.length_append, List.length_nil]
    · simp [ftl, o0] at hy
      subst hy
      exact ⟨rfl, by simp, by simp; omega, .inr ⟨by simp, rfl, by simp, by simp, .inr ⟨by simp, rfl, rfl⟩⟩⟩
  · obtain ⟨p0, q0⟩ := w0 o0
    refine br_nb (by rw [o0]; rfl) (br_b (by rw [o0]; rfl) ?_)
    refine leafG rr y _ _ _ _ _ _ _ _ _ ?_ ?_
    · simp only [List.length_append, List.length_nil]
    · simp [ftl, o0, p0, q0] at hy
      subst hy
      exact ⟨rfl, by simp, by simp; omega, .inl ⟨rfl, rfl, rfl, rfl⟩⟩
set_option maxHeartbeats 4000000 in
theorem G5 (rr : List (List Ac)) (hn : 5 ≤ rr.length) (ho : ∀ l ∈ rr, OkR l) : mlG rr 5 (Sy.endsIn 1 130 (wsG rr)) := by
  refine (G5_vc rr).mpr ⟨rr, ⟨(show (5 : Nat) ≤ 8 by decide), hn, ho⟩, rfl, rfl, rfl, rfl, rfl, rfl, rfl, rPl _, rfl, rfl, rfl, rfl, rfl, rfl, fun y hy => ?_⟩
  have hy : y = ftl [sbR rr 0, sbR rr 1, sbR rr 2, sbR rr 3, sbR rr 4] 0 := hy
  have hl : 5 ≤ (gC enR rr).length := by rw [rLen]; omega
  have ht : (gC enR rr).take 5 = gC enR (rr.take 5) := gC_take (en := enR) (k := 1) (fun _ => rfl) rr 5
  obtain ⟨a0, b0, c0, d0, e0, f0, g0⟩ := z_vj rr 5 0 (by decide) 0 (by decide)
  have n0 := sb_len rr 0
  have z0 := tl_zero _ (sbR rr 0) (Nat.le_refl _)
  have w0 := tl_two _ (sbR rr 0) (Nat.le_refl _)
  obtain ⟨a1, b1, c1, d1, e1, f1, g1⟩ := z_vj rr 5 1 (by decide) 1 (by decide)
  have n1 := sb_len rr 1
  have z1 := tl_zero _ (sbR rr 1) (Nat.le_refl _)
  have w1 := tl_two _ (sbR rr 1) (Nat.le_refl _)
  obtain ⟨a2, b2, c2, d2, e2, f2, g2⟩ := z_vj rr 5 2 (by decide) 2 (by decide)
  have n2 := sb_len rr 2
  have z2 := tl_zero _ (sbR rr 2) (Nat.le_refl _)
  have w2 := tl_two _ (sbR rr 2) (Nat.le_refl _)
  obtain ⟨a3, b3, c3, d3, e3, f3, g3⟩ := z_vj rr 5 3 (by decide) 3 (by decide)
  have n3 := sb_len rr 3
  have z3 := tl_zero _ (sbR rr 3) (Nat.le_refl _)
  have w3 := tl_two _ (sbR rr 3) (Nat.le_refl _)
  obtain ⟨a4, b4, c4, d4, e4, f4, g4⟩ := z_vj rr 5 4 (by decide) 4 (by decide)
  have n4 := sb_len rr 4
  have z4 := tl_zero _ (sbR rr 4) (Nat.le_refl _)
  have w4 := tl_two _ (sbR rr 4) (Nat.le_refl _)
  have iF := isF_of rr 5 hn ho
  simp only [ht, a0, b0, c0, d0, e0, f0, g0, a1, b1, c1, d1, e1, f1, g1, a2, b2, c2, d2, e2, f2, g2, a3, b3, c3, d3, e3, f3, g3, a4, b4, c4, d4, e4, f4, g4, ofNat_eq, toNat_cast, Nat.zero_add, Nat.add_zero, Nat.mul_one, List.drop_zero, bCells_len, bCells_drop, bCells_take, bCells_app, bCells_one, bCells_plain, List.length_replicate, List.length_append, List.length_take, List.length_drop, List.take_length, and_true, true_and, and_self, decide_true, List.length_nil, List.length_cons, Nat.sub_zero, dB_mk, dB_ro, List.take_zero, rPl, dI_mk, iCells_plain, List.nil_append, noGo_c, noGo_reps]
  have pn : Plain [] := fun v hv => by simp at hv
  refine ⟨⟨⟨hl, pn⟩, iF _ (by decide) (by decide) _ (by decide), isZ_0⟩, ?_⟩
  rcases z0 with ⟨o0, p0, q0⟩ | o0 | o0
  · refine br_b (by rw [o0]; rfl) ?_
    refine ⟨⟨hl, iF _ (by decide) (by decide) _ (by omega), isZ_of _ _ (by simp only [List.length_append])⟩, ?_⟩
    rcases z1 with ⟨o1, p1, q1⟩ | o1 | o1
    · refine br_b (by rw [o1]; rfl) ?_
      refine ⟨⟨hl, iF _ (by decide) (by decide) _ (by omega), isZ_of _ _ (by simp only [List.length_append])⟩, ?_⟩
      rcases z2 with ⟨o2, p2, q2⟩ | o2 | o2
      · refine br_b (by rw [o2]; rfl) ?_
        refine ⟨⟨hl, iF _ (by decide) (by decide) _ (by omega), isZ_of _ _ (by simp only [List.length_append])⟩, ?_⟩
        rcases z3 with ⟨o3, p3, q3⟩ | o3 | o3
        · refine br_b (by rw [o3]; rfl) ?_
          refine ⟨⟨hl, iF _ (by decide) (by decide) _ (by omega), isZ_of _ _ (by simp only [List.length_append])⟩, ?_⟩
          rcases z4 with ⟨o4, p4, q4⟩ | o4 | o4
          · refine br_b (by rw [o4]; rfl) ?_
            refine leafG rr y _ _ _ _ _ _ _ _ _ ?_ ?_
            · simp only [List.length_append, List.length_nil]
            · simp [ftl, o0, p0, q0, o1, p1, q1, o2, p2, q2, o3, p3, q3, o4, p4, q4] at hy
              subst hy
              exact ⟨rfl, by simp, by simp; omega, .inr ⟨by simp, rfl, rfl, by simp, .inl ⟨by simp, rfl, rfl⟩⟩⟩
          · refine br_nb (by rw [o4]; rfl) (br_nb (by rw [o4]; rfl) ?_)
            refine leafG rr y _ _ _ _ _ _ _ _ _ ?_ ?_
            · simp only [List.length_append, List.length_nil]
            · simp [ftl, o0, p0, q0, o1, p1, q1, o2, p2, q2, o3, p3, q3, o4] at hy
              subst hy
              exact ⟨rfl, by simp, by simp; omega, .inr ⟨by simp, rfl, by simp, by simp, .inr ⟨by simp, rfl, rfl⟩⟩⟩
          · obtain ⟨p4, q4⟩ := w4 o4
            refine br_nb (by rw [o4]; rfl) (br_b (by rw [o4]; rfl) ?_)
            refine leafG rr y _ _ _ _ _ _ _ _ _ ?_ ?_
            · simp only [List.length_append, List.length_nil]
            · simp [ftl, o0, p0, q0, o1, p1, q1, o2, p2, q2, o3, p3, q3, o4, p4, q4] at hy
              subst hy
              exact ⟨rfl, by simp, by simp; omega, .inl ⟨rfl, rfl, rfl, rfl⟩⟩
        · refine br_nb (by rw [o3]; rfl) (br_nb (by rw [o3]; rfl) ?_)
          refine leafG rr y _ _ _ _ _ _ _ _ _ ?_ ?_
          · simp only [List.length_append, List.length_nil]
          · simp [ftl, o0, p0, q0, o1, p1, q1, o2, p2, q2, o3] at hy
            subst hy
            exact ⟨rfl, by simp, by simp; omega, .inr ⟨by simp, rfl, by simp, by simp, .inr ⟨by simp, rfl, rfl⟩⟩⟩
        · obtain ⟨p3, q3⟩ := w3 o3
          refine br_nb (by rw [o3]; rfl) (br_b (by rw [o3]; rfl) ?_)
          refine leafG rr y _ _ _ _ _ _ _ _ _ ?_ ?_
          · simp only [List.length_append, List.length_nil]
          · simp [ftl, o0, p0, q0, o1, p1, q1, o2, p2, q2, o3, p3, q3] at hy
            subst hy
            exact ⟨rfl, by simp, by simp; omega, .inl ⟨rfl, rfl, rfl, rfl⟩⟩
      · refine br_nb (by rw [o2]; rfl) (br_nb (by rw [o2]; rfl) ?_)
        refine leafG rr y _ _ _ _ _ _ _ _ _ ?_ ?_
        · simp only [List.length_append, List.length_nil]
        · simp [ftl, o0, p0, q0, o1, p1, q1, o2] at hy
          subst hy
          exact ⟨rfl, by simp, by simp; omega, .inr ⟨by simp, rfl, by simp, by simp, .inr ⟨by simp, rfl, rfl⟩⟩⟩
      · obtain ⟨p2, q2⟩ := w2 o2
        refine br_nb (by rw [o2]; rfl) (br_b (by rw [o2]; rfl) ?_)
        refine leafG rr y _ _ _ _ _ _ _ _ _ ?_ ?_
        · simp only [List.length_append, List.length_nil]
        · simp [ftl, o0, p0, q0, o1, p1, q1, o2, p2, q2] at hy
          subst hy
          exact ⟨rfl, by simp, by simp; omega, .inl ⟨rfl, rfl, rfl, rfl⟩⟩
    · refine br_nb (by rw [o1]; rfl) (br_nb (by rw [o1]; rfl) ?_)
      refine leafG rr y _ _ _ _ _ _ _ _ _ ?_ ?_
      · simp only [List.length_append, List.length_nil]
      · simp [ftl, o0, p0, q0, o1] at hy
        subst hy
        exact ⟨rfl, by simp, by simp; omega, .inr ⟨by simp, rfl, by simp, by simp, .inr ⟨by simp, rfl, rfl⟩⟩⟩
    · obtain ⟨p1, q1⟩ := w1 o1
      refine br_nb (by rw [o1]; rfl) (br_b (by rw [o1]; rfl) ?_)
      refine leafG rr y _ _ _ _ _ _ _ _ _ ?_ ?_
      · simp only [List.length_append, List.length_nil]
      · simp [ftl, o0, p0, q0, o1, p1, q1] at hy
        subst hy
        exact ⟨rfl, by simp, by simp; omega, .inl ⟨rfl, rfl, rfl, rfl⟩⟩
  · refine br_nb (by rw [o0]; rfl) (br_nb (by rw [o0]; rfl) ?_)
    refine leafG rr y _ _ _ _ _ _ _ _ _ ?_ ?_
    · simp only [List.length_append, List.length_nil]
    · simp [ftl, o0] at hy
      subst hy
      exact ⟨rfl, by simp, by simp; omega, .inr ⟨by simp, rfl, by simp, by simp, .inr ⟨by simp, rfl, rfl⟩⟩⟩
  · obtain ⟨p0, q0⟩ := w0 o0
    refine br_nb (by rw [o0]; rfl) (br_b (by rw [o0]; rfl) ?_)
    refine leafG rr y _ _ _ _ _ _ _ _ _ ?_ ?_
    · simp only [List.length_append, List.length_nil]
    · simp [ftl, o0, p0, q0] at hy
      subst hy
      exact ⟨rfl, by simp, by simp; omega, .inl ⟨rfl, rfl, rfl, rfl⟩⟩
set_option maxHeartbeats 4000000 in
theorem G6 (rr : List (List Ac)) (hn : 6 ≤ rr.length) (ho : ∀ l ∈ rr, OkR l) : mlG rr 6 (Sy.endsIn 1 130 (wsG rr)) := by
  refine (G6_vc rr).mpr ⟨rr, ⟨(show (6 : Nat) ≤ 8 by decide), hn, ho⟩, rfl, rfl, rfl, rfl, rfl, rfl, rfl, rPl _, rfl, rfl, rfl, rfl, rfl, rfl, fun y hy => ?_⟩
  have hy : y = ftl [sbR rr 0, sbR rr 1, sbR rr 2, sbR rr 3, sbR rr 4, sbR rr 5] 0 := hy
  have hl : 6 ≤ (gC enR rr).length := by rw [rLen]; omega
  have ht : (gC enR rr).take 6 = gC enR (rr.take 6) := gC_take (en := enR) (k := 1) (fun _ => rfl) rr 6
  obtain ⟨a0, b0, c0, d0, e0, f0, g0⟩ := z_vj rr 6 0 (by decide) 0 (by decide)
  have n0 := sb_len rr 0
  have z0 := tl_zero _ (sbR rr 0) (Nat.le_refl _)
  have w0 := tl_two _ (sbR rr 0) (Nat.le_refl _)
  obtain ⟨a1, b1, c1, d1, e1, f1, g1⟩ := z_vj rr 6 1 (by decide) 1 (by decide)
  have n1 := sb_len rr 1
  have z1 := tl_zero _ (sbR rr 1) (Nat.le_refl _)
  have w1 := tl_two _ (sbR rr 1) (Nat.le_refl _)
  obtain ⟨a2, b2, c2, d2, e2, f2, g2⟩ := z_vj rr 6 2 (by decide) 2 (by decide)
  have n2 := sb_len rr 2
  have z2 := tl_zero _ (sbR rr 2) (Nat.le_refl _)
  have w2 := tl_two _ (sbR rr 2) (Nat.le_refl _)
  obtain ⟨a3, b3, c3, d3, e3, f3, g3⟩ := z_vj rr 6 3 (by decide) 3 (by decide)
  have n3 := sb_len rr 3
  have z3 := tl_zero _ (sbR rr 3) (Nat.le_refl _)
  have w3 := tl_two _ (sbR rr 3) (Nat.le_refl _)
  obtain ⟨a4, b4, c4, d4, e4, f4, g4⟩ := z_vj rr 6 4 (by decide) 4 (by decide)
  have n4 := sb_len rr 4
  have z4 := tl_zero _ (sbR rr 4) (Nat.le_refl _)
  have w4 := tl_two _ (sbR rr 4) (Nat.le_refl _)
  obtain ⟨a5, b5, c5, d5, e5, f5, g5⟩ := z_vj rr 6 5 (by decide) 5 (by decide)
  have n5 := sb_len rr 5
  have z5 := tl_zero _ (sbR rr 5) (Nat.le_refl _)
  have w5 := tl_two _ (sbR rr 5) (Nat.le_refl _)
  have iF := isF_of rr 6 hn ho
  simp only [ht, a0, b0, c0, d0, e0, f0, g0, a1, b1, c1, d1, e1, f1, g1, a2, b2, c2, d2, e2, f2, g2, a3, b3, c3, d3, e3, f3, g3, a4, b4, c4, d4, e4, f4, g4, a5, b5, c5, d5, e5, f5, g5, ofNat_eq, toNat_cast, Nat.zero_add, Nat.add_zero, Nat.mul_one, List.drop_zero, bCells_len, bCells_drop, bCells_take, bCells_app, bCells_one, bCells_plain, List.length_replicate, List.length_append, List.length_take, List.length_drop, List.take_length, and_true, true_and, and_self, decide_true, List.length_nil, List.length_cons, Nat.sub_zero, dB_mk, dB_ro, List.take_zero, rPl, dI_mk, iCells_plain, List.nil_append, noGo_c, noGo_reps]
  have pn : Plain [] := fun v hv => by simp at hv
  refine ⟨⟨⟨hl, pn⟩, iF _ (by decide) (by decide) _ (by decide), isZ_0⟩, ?_⟩
  rcases z0 with ⟨o0, p0, q0⟩ | o0 | o0
  · refine br_b (by rw [o0]; rfl) ?_
    refine ⟨⟨hl, iF _ (by decide) (by decide) _ (by omega), isZ_of _ _ (by simp only [List.length_append])⟩, ?_⟩
    rcases z1 with ⟨o1, p1, q1⟩ | o1 | o1
    · refine br_b (by rw [o1]; rfl) ?_
      refine ⟨⟨hl, iF _ (by decide) (by decide) _ (by omega), isZ_of _ _ (by simp only [List.length_append])⟩, ?_⟩
      rcases z2 with ⟨o2, p2, q2⟩ | o2 | o2
      · refine br_b (by rw [o2]; rfl) ?_
        refine ⟨⟨hl, iF _ (by decide) (by decide) _ (by omega), isZ_of _ _ (by simp only [List.length_append])⟩, ?_⟩
        rcases z3 with ⟨o3, p3, q3⟩ | o3 | o3
        · refine br_b (by rw [o3]; rfl) ?_
          refine ⟨⟨hl, iF _ (by decide) (by decide) _ (by omega), isZ_of _ _ (by simp only [List.length_append])⟩, ?_⟩
          rcases z4 with ⟨o4, p4, q4⟩ | o4 | o4
          · refine br_b (by rw [o4]; rfl) ?_
            refine ⟨⟨hl, iF _ (by decide) (by decide) _ (by omega), isZ_of _ _ (by simp only [List.length_append])⟩, ?_⟩
            rcases z5 with ⟨o5, p5, q5⟩ | o5 | o5
            · refine br_b (by rw [o5]; rfl) ?_
              refine leafG rr y _ _ _ _ _ _ _ _ _ ?_ ?_
              · simp only [List.length_append, List.length_nil]
              · simp [ftl, o0, p0, q0, o1, p1, q1, o2, p2, q2, o3, p3, q3, o4, p4, q4, o5, p5, q5] at hy
                subst hy
                exact ⟨rfl, by simp, by simp; omega, .inr ⟨by simp, rfl, rfl, by simp, .inl ⟨by simp, rfl, rfl⟩⟩⟩
            · refine br_nb (by rw [o5]; rfl) (br_nb (by rw [o5]; rfl) ?_)
              refine leafG rr y _ _ _ _ _ _ _ _ _ ?_ ?_
              · simp only [List.length_append, List.length_nil]
              · simp [ftl, o0, p0, q0, o1, p1, q1, o2, p2, q2, o3, p3, q3, o4, p4, q4, o5] at hy
                subst hy
                exact ⟨rfl, by simp, by simp; omega, .inr ⟨by simp, rfl, by simp, by simp, .inr ⟨by simp, rfl, rfl⟩⟩⟩
            · obtain ⟨p5, q5⟩ := w5 o5
              refine br_nb (by rw [o5]; rfl) (br_b (by rw [o5]; rfl) ?_)
              refine leafG rr y _ _ _ _ _ _ _ _ _ ?_ ?_
              · simp only [List.length_append, List.length_nil]
              · simp [ftl, o0, p0, q0, o1, p1, q1, o2, p2, q2, o3, p3, q3, o4, p4, q4, o5, p5, q5] at hy
                subst hy
                exact ⟨rfl, by simp, by simp; omega, .inl ⟨rfl, rfl, rfl, rfl⟩⟩
          · refine br_nb (by rw [o4]; rfl) (br_nb (by rw [o4]; rfl) ?_)
            refine leafG rr y _ _ _ _ _ _ _ _ _ ?_ ?_
            · simp only [List.length_append, List.length_nil]
            · simp [ftl, o0, p0, q0, o1, p1, q1, o2, p2, q2, o3, p3, q3, o4] at hy
              subst hy
              exact ⟨rfl, by simp, by simp; omega, .inr ⟨by simp, rfl, by simp, by simp, .inr ⟨by simp, rfl, rfl⟩⟩⟩
          · obtain ⟨p4, q4⟩ := w4 o4
            refine br_nb (by rw [o4]; rfl) (br_b (by rw [o4]; rfl) ?_)
            refine leafG rr y _ _ _ _ _ _ _ _ _ ?_ ?_
            · simp only [List.length_append, List.length_nil]
            · simp [ftl, o0, p0, q0, o1, p1, q1, o2, p2, q2, o3, p3, q3, o4, p4, q4] at hy
              subst hy
              exact ⟨rfl, by simp, by simp; omega, .inl ⟨rfl, rfl, rfl, rfl⟩⟩
        · refine br_nb (by rw [o3]; rfl) (br_nb (by rw [o3]; rfl) ?_)
          refine leafG rr y _ _ _ _ _ _ _ _ _ ?_ ?_
          · simp only [List.length_append, List.length_nil]
          · simp [ftl, o0, p0, q0, o1, p1, q1, o2, p2, q2, o3] at hy
            subst hy
            exact ⟨rfl, by simp, by simp; omega, .inr ⟨by simp, rfl, by simp, by simp, .inr ⟨by simp, rfl, rfl⟩⟩⟩
        · obtain ⟨p3, q3⟩ := w3 o3
          refine br_nb (by rw [o3]; rfl) (br_b (by rw [o3]; rfl) ?_)
          refine leafG rr y _ _ _ _ _ _ _ _ _ ?_ ?_
          · simp only [List.length_append, List.length_nil]
          · simp [ftl, o0, p0, q0, o1, p1, q1, o2, p2, q2, o3, p3, q3] at hy
            subst hy
            exact ⟨rfl, by simp, by simp; omega, .inl ⟨rfl, rfl, rfl, rfl⟩⟩
      · refine br_nb (by rw [o2]; rfl) (br_nb (by rw [o2]; rfl) ?_)
        refine leafG rr y _ _ _ _ _ _ _ _ _ ?_ ?_
        · simp only [List.length_append, List.length_nil]
        · simp [ftl, o0, p0, q0, o1, p1, q1, o2] at hy
          subst hy
          exact ⟨rfl, by simp, by simp; omega, .inr ⟨by simp, rfl, by simp, by simp, .inr ⟨by simp, rfl, rfl⟩⟩⟩
      · obtain ⟨p2, q2⟩ := w2 o2
        refine br_nb (by rw [o2]; rfl) (br_b (by rw [o2]; rfl) ?_)
        refine leafG rr y _ _ _ _ _ _ _ _ _ ?_ ?_
        · simp only [List.length_append, List.length_nil]
        · simp [ftl, o0, p0, q0, o1, p1, q1, o2, p2, q2] at hy
          subst hy
          exact ⟨rfl, by simp, by simp; omega, .inl ⟨rfl, rfl, rfl, rfl⟩⟩
    · refine br_nb (by rw [o1]; rfl) (br_nb (by rw [o1]; rfl) ?_)
      refine leafG rr y _ _ _ _ _ _ _ _ _ ?_ ?_
      · simp only [List.length_append, List.length_nil]
      · simp [ftl, o0, p0, q0, o1] at hy
        subst hy
        exact ⟨rfl, by simp, by simp; omega, .inr ⟨by simp, rfl, by simp, by simp, .inr ⟨by simp, rfl, rfl⟩⟩⟩
    · obtain ⟨p1, q1⟩ := w1 o1
      refine br_nb (by rw [o1]; rfl) (br_b (by rw [o1]; rfl) ?_)
      refine leafG rr y _ _ _ _ _ _ _ _ _ ?_ ?_
      · simp only [List.length_append, List.length_nil]
      · simp [ftl, o0, p0, q0, o1, p1, q1] at hy
        subst hy
        exact ⟨rfl, by simp, by simp; omega, .inl ⟨rfl, rfl, rfl, rfl⟩⟩
  · refine br_nb (by rw [o0]; rfl) (br_nb (by rw [o0]; rfl) ?_)
    refine leafG rr y _ _ _ _ _ _ _ _ _ ?_ ?_
    · simp only [List.length_append, List.length_nil]
    · simp [ftl, o0] at hy
      subst hy
      exact ⟨rfl, by simp, by simp; omega, .inr ⟨by simp, rfl, by simp, by simp, .inr ⟨by simp, rfl, rfl⟩⟩⟩
  · obtain ⟨p0, q0⟩ := w0 o0
    refine br_nb (by rw [o0]; rfl) (br_b (by rw [o0]; rfl) ?_)
    refine leafG rr y _ _ _ _ _ _ _ _ _ ?_ ?_
    · simp only [List.length_append, List.length_nil]
    · simp [ftl, o0, p0, q0] at hy
      subst hy
      exact ⟨rfl, by simp, by simp; omega, .inl ⟨rfl, rfl, rfl, rfl⟩⟩
end Go.Proofs.Ytekijelmdajhlaa.gp
