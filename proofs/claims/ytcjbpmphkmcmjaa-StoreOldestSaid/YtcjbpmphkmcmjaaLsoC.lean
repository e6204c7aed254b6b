/- The store: which node fits a request. -/
import Derived.Test.YtcjbpmphkmcmjaaSz9
import Derived.Test.YtcjbpmphkmcmjaaRows
import Derived.Test.YtcjbpmphkmcmjaaLsoB
set_option maxRecDepth 20000
set_option linter.unusedSimpArgs false
set_option linter.unusedVariables false
namespace Go.Proofs.Ytcjbpmphkmcmjaa.so
open Go Go.Ev Go.Sy Go.RowKit Go.Proofs.Ytcjbpmphkmcmjaa.gl Go.Proofs.Ytcjbpmphkmcmjaa.tk Go.Proofs.Ytcjbpmphkmcmjaa.cp Go.Proofs.Ytcjbpmphkmcmjaa.ic
def FV (l : List Fl) : Prop := FOk l ∧ BigV l
def FVR (r : Row) : Prop := FV (decF r.cells)
noncomputable def maR : Row → Row → Row → Bool := sealV matR
noncomputable def eMa : EntM := entC 34 fun a r => match a, r with
  | [.agg ⟨[.string m, .string s, .string a, .string p, .slice (some ⟨0, 0, none⟩) n0 2, .int .i64 k, .int .i64 st, .slice (some ⟨1, 0, none⟩) n1 2, .int .i64 k2, .string b, .int .i64 t1, .int .i64 t2]⟩, .agg ⟨[.string qm, .string qs, .string qa, .string qp, .slice (some ⟨2, 0, none⟩) n2 2, .int .i64 qk]⟩], [r0, r1, r2] => some (IsF r0 n0 ∧ IsF r1 n1 ∧ IsF r2 n2 ∧ FVR r0 ∧ FVR r1 ∧ FVR r2, .bool (maR r0 r1 r2), [])
  | _, _ => none
noncomputable def fiI : List Nd → List Fl → List Int → Int
  | _, _, [] => -1
  | nd, q, i :: r => if matL (gN nd i.toNat).e (gN nd i.toNat).r q then i else fiI nd q r
noncomputable def tFi : List EntM := [eKy, eMa]
noncomputable abbrev EFi : Env := envT Try.prog tFi
structure GFi where
  s : SS
  y : RqX
  q : List Fl
  l : List Int
  z : Nat
  o : Nat
  n : Nat
def NdOk (nd : List Nd) : Prop := nd.length ≤ 16777216 ∧ ∀ i, FV (gN nd i).e ∧ FV (gN nd i).r
def IxOk (nd : List Nd) (l : List Int) : Prop := ∀ x ∈ l, 0 ≤ x ∧ x < (nd.length : Int)
def preFi (g : GFi) : Prop := g.n ≤ 16777216 ∧ GI g.z g.o g.n g.l ∧ IxOk g.s.nd g.l ∧ NdOk g.s.nd ∧ FV g.q
def pFi : List Nat := [0, 1, 0, 1]
def slFi (g : GFi) (i : Nat) : List (Nat × Value) := [(0, .pointer (some ⟨0, 0, none⟩)), (3, .pointer (some ⟨5, 0, none⟩)), (13, .slice (some ⟨g.z, g.o, some 0⟩) g.n 1), (14, .int .i64 (g.n : Nat)), (15, .int .i64 (i : Nat))]
noncomputable def rwFi (s : SS) (q : List Fl) : List (Nat × Row) := [(0, ssR s 2 3 4), (1, gRo enF q), (2, gOwn ndC s.nd), (3, iOwn .i64 s.fr), (4, mpR s.m)]
noncomputable def rlFi (g : GFi) : List (Nat × Row) := rwFi g.s g.q ++ [(5, ⟨rqCells g.y 1 g.q.length, false, .cells false⟩)]
noncomputable def wsFi (g : GFi) : List (Gate Unit) := [⟨.exit 0, fun _ => fiI g.s.nd g.q g.l = -1, fun _ => [], fun _ => rwFi g.s g.q, 5⟩, ⟨.ret, fun _ => True, fun _ => [(4, .int .i64 (fiI g.s.nd g.q g.l))], fun _ => rwFi g.s g.q, 5⟩]
noncomputable def specFi : Sy.Spec := specOf 5 6 31 preFi (fun g => slFi g 0) rlFi wsFi
noncomputable def mFi := mOf [(38, pFi, specFi)]
theorem Fi_round (g : GFi) (i : Nat) (Inv : Nat → Prop) (m : Nat → Nat) : mev EFi noM 100 38 (0 :: pFi) false (codeOf Try.prog 38 (0 :: pFi)) ⟨mkOv (slFi g i), 31, []⟩ none ⟨mkR (rlFi g), 6⟩ (roundK 5 6 31 Inv m (slFi g) (fun _ => rlFi g) (wsFi g) i) =
  let z1 := (cellI (gCells g.5) (g.6 + Int.toNat (↑i : Int) * 1)); let z3 := (0 + Int.toNat z1 * 16 + 0 + 1 + 1 + 1 + 1 + 1 + 1 + 1); let z2 := (Array.mk [Value.string
  (cellS (gC ndC g.1.3) (0 + Int.toNat z1 * 16 + 0)), Value.string (cellS (gC ndC g.1.3) (0 + Int.toNat z1 * 16 + 0 + 1)), Value.string (cellS (gC ndC g.1.3) (0 + Int.toNat
  z1 * 16 + 0 + 1 + 1)), Value.string (cellS (gC ndC g.1.3) (0 + Int.toNat z1 * 16 + 0 + 1 + 1 + 1)), Value.slice (some (Addr.mk (cellZ (gC ndC g.1.3) (0 + Int.toNat z1 * 16
  + 0 + 1 + 1 + 1 + 1)) (cellO (gC ndC g.1.3) (0 + Int.toNat z1 * 16 + 0 + 1 + 1 + 1 + 1)) (some 0))) (cellN (gC ndC g.1.3) (0 + Int.toNat z1 * 16 + 0 + 1 + 1 + 1 + 1)) 2,
  Value.int IntKind.i64 (cellI (gC ndC g.1.3) (0 + Int.toNat z1 * 16 + 0 + 1 + 1 + 1 + 1 + 1)), Value.int IntKind.i64 (cellI (gC ndC g.1.3) (0 + Int.toNat z1 * 16 + 0 + 1 +
  1 + 1 + 1 + 1 + 1)), Value.slice (some (Addr.mk (cellZ (gC ndC g.1.3) z3) (cellO (gC ndC g.1.3) z3) (some 0))) (cellN (gC ndC g.1.3) z3) 2, Value.int IntKind.i64 (cellI
  (gC ndC g.1.3) (0 + Int.toNat z1 * 16 + 0 + 1 + 1 + 1 + 1 + 1 + 1 + 1 + 1)), Value.string (cellS (gC ndC g.1.3) (0 + Int.toNat z1 * 16 + 0 + 1 + 1 + 1 + 1 + 1 + 1 + 1 + 1
  + 1)), Value.int IntKind.i64 (cellI (gC ndC g.1.3) (0 + Int.toNat z1 * 16 + 0 + 1 + 1 + 1 + 1 + 1 + 1 + 1 + 1 + 1 + 1)), Value.int IntKind.i64 (cellI (gC ndC g.1.3) (0 +
  Int.toNat z1 * 16 + 0 + 1 + 1 + 1 + 1 + 1 + 1 + 1 + 1 + 1 + 1 + 1))]); let z4 := (Row.mk (List.take (cellN (gC ndC g.1.3) (0 + Int.toNat z1 * 16 + 0 + 1 + 1 + 1 + 1) * 2)
  (List.drop (cellO (gC ndC g.1.3) (0 + Int.toNat z1 * 16 + 0 + 1 + 1 + 1 + 1)) (gCells (cellZ (gC ndC g.1.3) (0 + Int.toNat z1 * 16 + 0 + 1 + 1 + 1 + 1))))) true (Ob.cells
  true)); let z5 := ((g.1.1 = g.1.1) /\ ((g.1.2 = g.1.2) /\ ((0 = 0) /\ ((List.length g.1.3 = List.length g.1.3) /\ ((0 = 0) /\ ((g.1.5 = g.1.5) /\ ((g.1.6 = g.1.6) /\
  ((g.1.7 = g.1.7) /\ ((Eq (α := List Value) (gC enF g.3) (gC enF g.3)) /\ ((Plain (gC enF g.3)) /\ ((Eq (α := List Value) (gC ndC g.1.3) (gC ndC g.1.3)) /\ ((Plain (gC ndC
  g.1.3)) /\ ((Eq (α := List Value) (iCells IntKind.i64 g.1.4) (iCells IntKind.i64 g.1.4)) /\ ((Plain (iCells IntKind.i64 g.1.4)) /\ ((Eq (α := List Value) (mC g.1.8) (mC
  g.1.8)) /\ ((Plain (mC g.1.8)) /\ True)))))))))))))))); let z6 := (Eq (α := Option Value) ((gC ndC g.1.3)[0 + Int.toNat z1 * 16 + 0 + 1 + 1 + 1 + 1]?) (some (Value.slice
  (some (Addr.mk (cellZ (gC ndC g.1.3) (0 + Int.toNat z1 * 16 + 0 + 1 + 1 + 1 + 1)) (cellO (gC ndC g.1.3) (0 + Int.toNat z1 * 16 + 0 + 1 + 1 + 1 + 1)) (some 0))) (cellN (gC
  ndC g.1.3) (0 + Int.toNat z1 * 16 + 0 + 1 + 1 + 1 + 1)) 2))); let z7 := (Row.mk (List.take (cellN (gC ndC g.1.3) z3 * 2) (List.drop (cellO (gC ndC g.1.3) z3) (gCells
  (cellZ (gC ndC g.1.3) z3)))) true (Ob.cells true)); let z8 := (Eq (α := Option Value) ((gC ndC g.1.3)[0 + Int.toNat z1 * 16 + 0 + 1 + 1 + 1 + 1 + 1 + 1 + 1 + 1 + 1 + 1 +
  1]?) (some (Value.int IntKind.i64 (cellI (gC ndC g.1.3) (0 + Int.toNat z1 * 16 + 0 + 1 + 1 + 1 + 1 + 1 + 1 + 1 + 1 + 1 + 1 + 1))))); let z9 := (Eq (α := Option Value) ((gC
  ndC g.1.3)[0 + Int.toNat z1 * 16 + 0 + 1 + 1 + 1 + 1 + 1 + 1 + 1 + 1 + 1 + 1]?) (some (Value.int IntKind.i64 (cellI (gC ndC g.1.3) (0 + Int.toNat z1 * 16 + 0 + 1 + 1 + 1 +
  1 + 1 + 1 + 1 + 1 + 1 + 1))))); let z10 := (Eq (α := Option Value) ((gC ndC g.1.3)[0 + Int.toNat z1 * 16 + 0 + 1 + 1 + 1 + 1 + 1 + 1 + 1]?) (some (Value.slice (some
  (Addr.mk (cellZ (gC ndC g.1.3) z3) (cellO (gC ndC g.1.3) z3) (some 0))) (cellN (gC ndC g.1.3) z3) 2))); let z11 := (Eq (α := Option Value) ((gC ndC g.1.3)[0 + Int.toNat z1
  * 16 + 0 + 1 + 1 + 1 + 1 + 1 + 1 + 1 + 1]?) (some (Value.int IntKind.i64 (cellI (gC ndC g.1.3) (0 + Int.toNat z1 * 16 + 0 + 1 + 1 + 1 + 1 + 1 + 1 + 1 + 1))))); let z12 :=
  (Eq (α := Option Value) ((gC ndC g.1.3)[0 + Int.toNat z1 * 16 + 0 + 1 + 1 + 1 + 1 + 1 + 1 + 1 + 1 + 1]?) (some (Value.string (cellS (gC ndC g.1.3) (0 + Int.toNat z1 * 16 +
  0 + 1 + 1 + 1 + 1 + 1 + 1 + 1 + 1 + 1))))); let z13 := (Eq (α := Option Value) ((gC ndC g.1.3)[0 + Int.toNat z1 * 16 + 0 + 1 + 1 + 1 + 1 + 1 + 1]?) (some (Value.int
  IntKind.i64 (cellI (gC ndC g.1.3) (0 + Int.toNat z1 * 16 + 0 + 1 + 1 + 1 + 1 + 1 + 1))))); let z14 := (Eq (α := Option Value) ((gC ndC g.1.3)[0 + Int.toNat z1 * 16 + 0 + 1
  + 1 + 1 + 1 + 1]?) (some (Value.int IntKind.i64 (cellI (gC ndC g.1.3) (0 + Int.toNat z1 * 16 + 0 + 1 + 1 + 1 + 1 + 1))))); let z15 := (Array.mk [Value.string g.2.1,
  Value.string g.2.2, Value.string g.2.3, Value.string g.2.4, Value.slice (some (Addr.mk 1 0 none)) (List.length g.3) 2, Value.int IntKind.i64 g.2.5]); let z16 := (Row.mk
  (List.take (List.length g.3 * 2) (List.drop 0 (gC enF g.3))) true (Ob.cells true)); let z17 := (Eq (α := Option Value) ((gC ndC g.1.3)[0 + Int.toNat z1 * 16 + 0 + 1 + 1 +
  1]?) (some (Value.string (cellS (gC ndC g.1.3) (0 + Int.toNat z1 * 16 + 0 + 1 + 1 + 1))))); let z18 := (Eq (α := Option Value) ((gC ndC g.1.3)[0 + Int.toNat z1 * 16 + 0 +
  1 + 1]?) (some (Value.string (cellS (gC ndC g.1.3) (0 + Int.toNat z1 * 16 + 0 + 1 + 1))))); let z19 := (Eq (α := Option Value) ((gC ndC g.1.3)[0 + Int.toNat z1 * 16 + 0 +
  1]?) (some (Value.string (cellS (gC ndC g.1.3) (0 + Int.toNat z1 * 16 + 0 + 1))))); let z20 := (Eq (α := Option Value) ((gC ndC g.1.3)[0 + Int.toNat z1 * 16 + 0]?) (some
  (Value.string (cellS (gC ndC g.1.3) (0 + Int.toNat z1 * 16 + 0))))); (br (decide ((↑i : Int) < (↑g.7 : Int))) (br (decide ((0 : Int) <= (↑i : Int) /\ (↑i : Int) < (↑g.7 :
  Int))) ((Eq (α := Option Value) ((gCells g.5)[g.6 + Int.toNat (↑i : Int) * 1]?) (some (Value.int IntKind.i64 z1))) /\ (br (decide ((0 : Int) <= cellI (gCells g.5) (g.6 +
  Int.toNat (↑i : Int) * 1) /\ cellI (gCells g.5) (g.6 + Int.toNat (↑i : Int) * 1) < (↑(List.length g.1.3) : Int))) (z20 /\ (z19 /\ (z18 /\ (z17 /\ (z6 /\ (z14 /\ (z13 /\
  (z10 /\ (z11 /\ (z12 /\ (z9 /\ (z8 /\ (((((True /\ (True /\ (True /\ (True /\ (cellO (gC ndC g.1.3) (0 + Int.toNat z1 * 16 + 0 + 1 + 1 + 1 + 1) + cellN (gC ndC g.1.3) (0 +
  Int.toNat z1 * 16 + 0 + 1 + 1 + 1 + 1) * 2 <= List.length (gCells (cellZ (gC ndC g.1.3) (0 + Int.toNat z1 * 16 + 0 + 1 + 1 + 1 + 1))) /\ (True /\ (True /\ (cellO (gC ndC
  g.1.3) z3 + cellN (gC ndC g.1.3) z3 * 2 <= List.length (gCells (cellZ (gC ndC g.1.3) z3)) /\ (True /\ (True /\ (True /\ (True /\ True)))))))))))) /\ ((True /\ (True /\
  (True /\ (True /\ ((0 + List.length g.3 * 2 <= List.length (gC enF g.3) /\ Plain (List.take (List.length g.3 * 2) (List.drop 0 (gC enF g.3)))) /\ (True /\ True)))))) /\
  True)) /\ ((True /\ (True /\ (True /\ True))) /\ (True /\ (IsF z4 (cellN (gC ndC g.1.3) (0 + Int.toNat z1 * 16 + 0 + 1 + 1 + 1 + 1)) /\ (IsF z7 (cellN (gC ndC g.1.3) z3)
  /\ (IsF z16 (List.length g.3) /\ (FVR z4 /\ (FVR z7 /\ FVR z16))))))))) /\ ((Value.slice (some (Addr.mk 2 0 none)) (List.length g.1.3) 16 = Value.slice (some (Addr.mk 2 0
  none)) (List.length g.1.3) 16) /\ (z20 /\ (z19 /\ (z18 /\ (z17 /\ (z6 /\ (z14 /\ (z13 /\ (z10 /\ (z11 /\ (z12 /\ (z9 /\ (z8 /\ ((Value.agg z2 = Value.agg z2) /\
  ((Value.agg z15 = Value.agg z15) /\ (br (maR z4 z7 z16) (∃ y : Unit, ((True) /\ ((fiI g.1.3 g.3 g.4 = cellI (gCells g.5) (g.6 + Int.toNat (↑i : Int) * 1)) /\ z5))) (∃ j :
  Nat, ((Inv j) /\ ((m j < m i) /\ ((0 = 0) /\ ((0 = 0) /\ ((g.5 = g.5) /\ ((g.6 = g.6) /\ ((g.7 = g.7) /\ ((1 = 1) /\ (((↑g.7 : Int) = (↑g.7 : Int)) /\ (((↑j : Int) =
  IntKind.wrap IntKind.i64 ((↑i : Int) + (1 : Int))) /\ ((g.1.1 = g.1.1) /\ ((g.1.2 = g.1.2) /\ ((0 = 0) /\ ((List.length g.1.3 = List.length g.1.3) /\ ((0 = 0) /\ ((g.1.5 =
  g.1.5) /\ ((g.1.6 = g.1.6) /\ ((g.1.7 = g.1.7) /\ ((Eq (α := List Value) (gC enF g.3) (gC enF g.3)) /\ ((Plain (gC enF g.3)) /\ ((Eq (α := List Value) (gC ndC g.1.3) (gC
  ndC g.1.3)) /\ ((Plain (gC ndC g.1.3)) /\ ((Eq (α := List Value) (iCells IntKind.i64 g.1.4) (iCells IntKind.i64 g.1.4)) /\ ((Plain (iCells IntKind.i64 g.1.4)) /\ ((Eq (α
  := List Value) (mC g.1.8) (mC g.1.8)) /\ ((Plain (mC g.1.8)) /\ ((g.2.1 = g.2.1) /\ ((g.2.2 = g.2.2) /\ ((g.2.3 = g.2.3) /\ ((g.2.4 = g.2.4) /\ ((0 = 0) /\ ((List.length
  g.3 = List.length g.3) /\ ((g.2.5 = g.2.5) /\ True))))))))))))))))))))))))))))))))))))))))))))))))))))))))))))))) False)) False) (∃ y : Unit, ((fiI g.1.3 g.3 g.4 = (-1 :
  Int)) /\ z5))) := by kernel_rfl
theorem Fi_vc (s : SS) (y : RqX) (q : List Fl) (N : Int) : mcall EFi mFi 100 38 [.pointer (some ⟨0, 0, none⟩), .agg ⟨rqCells y 1 q.length⟩] ⟨mkR (nums 0 [ssR s 2 3 4, gRo enF q, gOwn ndC s.nd, iOwn .i64 s.fr, mpR s.m]), 5⟩ (retIsM 5 (.int .i64 N) 5 (rwFi s q)) =
  let z1 := (mpOne (mC s.8) (Value.string (keyV y.2 y.3 y.4))); let z2 := (Array.mk [Value.string y.1, Value.string y.2, Value.string y.3, Value.string y.4, Value.slice
  (some (Addr.mk 1 0 none)) (List.length q) 2, Value.int IntKind.i64 y.5]); let z3 := (some (Addr.mk (cellZ z1 0) (cellO z1 0) (some 0))); let z4 := (List.take (List.length
  q * 2) (List.drop 0 (gC enF q))); let z5 := (MKeys (mC s.8) (Value.string (keyV y.2 y.3 y.4))); (((((True /\ (True /\ (True /\ (True /\ ((0 + List.length q * 2 <=
  List.length (gC enF q) /\ Plain z4) /\ (True /\ True)))))) /\ True) /\ ((True /\ True) /\ (True /\ (TOk y.2 /\ (TOk y.3 /\ (TOk y.4 /\ IsF (Row.mk z4 true (Ob.cells true))
  (List.length q)))))))) /\ (z5 /\ ((IsOne z1 (Value.slice z3 (cellN z1 0) 1)) /\ ((Value.map (some 4) = Value.map (some 4)) /\ ((Value.map (some 4) = Value.map (some 4)) /\
  ((Value.agg z2 = Value.agg z2) /\ (z5 /\ ((IsOne z1 (Value.slice z3 (cellN z1 0) 1)) /\ ((Value.slice z3 (cellN z1 0) 1 = Value.slice z3 (cellN z1 0) 1) /\ (∃ g : GFi, let
  w1 := ((s.1 = g.1.1) /\ ((s.2 = g.1.2) /\ ((0 = 0) /\ ((List.length s.3 = List.length g.1.3) /\ ((0 = 0) /\ ((s.5 = g.1.5) /\ ((s.6 = g.1.6) /\ ((s.7 = g.1.7) /\ ((Eq (α
  := List Value) (gC enF q) (gC enF g.3)) /\ ((Plain (gC enF q)) /\ ((Eq (α := List Value) (gC ndC s.3) (gC ndC g.1.3)) /\ ((Plain (gC ndC s.3)) /\ ((Eq (α := List Value)
  (iCells IntKind.i64 s.4) (iCells IntKind.i64 g.1.4)) /\ ((Plain (iCells IntKind.i64 s.4)) /\ ((Eq (α := List Value) (mC s.8) (mC g.1.8)) /\ ((Plain (mC s.8)) /\
  True)))))))))))))))); ((preFi g) /\ ((0 = 0) /\ ((0 = 0) /\ ((g.5 = cellZ z1 0) /\ ((g.6 = cellO z1 0) /\ ((g.7 = cellN z1 0) /\ ((1 = 1) /\ (((↑g.7 : Int) = Int.ofNat
  (cellN z1 0)) /\ (((0 : Int) = (0 : Int)) /\ ((g.1.1 = s.1) /\ ((g.1.2 = s.2) /\ ((0 = 0) /\ ((List.length g.1.3 = List.length s.3) /\ ((0 = 0) /\ ((g.1.5 = s.5) /\
  ((g.1.6 = s.6) /\ ((g.1.7 = s.7) /\ ((Eq (α := List Value) (gC enF g.3) (gC enF q)) /\ ((Plain (gC enF g.3)) /\ ((Eq (α := List Value) (gC ndC g.1.3) (gC ndC s.3)) /\
  ((Plain (gC ndC g.1.3)) /\ ((Eq (α := List Value) (iCells IntKind.i64 g.1.4) (iCells IntKind.i64 s.4)) /\ ((Plain (iCells IntKind.i64 g.1.4)) /\ ((Eq (α := List Value) (mC
  g.1.8) (mC s.8)) /\ ((Plain (mC g.1.8)) /\ ((g.2.1 = y.1) /\ ((g.2.2 = y.2) /\ ((g.2.3 = y.3) /\ ((g.2.4 = y.4) /\ ((0 = 0) /\ ((List.length g.3 = List.length q) /\
  ((g.2.5 = y.5) /\ (∀ (side : Bool), (br (side) (∀ (y2 : Unit), ((fiI g.1.3 g.3 g.4 = (-1 : Int)) → ((N = (-1 : Int)) /\ w1))) (∀ (y2 : Unit), ((True) → ((N = fiI g.1.3 g.3
  g.4) /\ w1))))))))))))))))))))))))))))))))))))))))))))))) := by kernel_rfl
theorem eMa_ok : EntOk Try.prog eMa := entC_ok (by
  intro a rows p v news h hp
  split at h <;> simp only [Option.some.injEq, Prod.mk.injEq, reduceCtorEq] at h
  obtain ⟨rfl, rfl, rfl⟩ := h
  rename_i m s a p n0 k st n1 k2 b t1 t2 qm qs qa qp n2 qk r0 r1 r2
  obtain ⟨⟨e, rfl, rfl⟩, ⟨r, rfl, rfl⟩, ⟨q, rfl, rfl⟩, h3, h4, h5⟩ := hp
  unfold FVR at h3 h4 h5
  rw [show decF (gRo enF e).cells = e from decF_gC e] at h3
  rw [show decF (gRo enF r).cells = r from decF_gC r] at h4
  rw [show decF (gRo enF q).cells = q from decF_gC q] at h5
  rw [List.append_nil]
  have hm : maxLen = 9223372036854775807 := by unfold maxLen; rfl
  have ev : maR (gRo enF e) (gRo enF r) (gRo enF q) = matL e r q := by unfold maR matR; rw [sealV_eq]; simp only [gRo, decF_gC]
  rw [ev]
  exact Mt_con ⟨m, s, a, p, k, st, k2, b, t1, t2⟩ ⟨qm, qs, qa, qp, qk⟩ e r q (by have := h3.1.1; omega) (by have := h4.1.1; omega) (by have := h5.1.1; omega) h3.2 h4.2 h5.2)
theorem tFi_ok : ∀ x ∈ tFi, EntOk Try.prog x := all_cons eKy_ok (all_cons eMa_ok all_nil)
theorem z_ma (e r q : List Fl) (b1 b2 b3 : Bool) (o1 o2 o3 : Ob) : maR ⟨gC enF e, b1, o1⟩ ⟨gC enF r, b2, o2⟩ ⟨gC enF q, b3, o3⟩ = matL e r q := by unfold maR; rw [sealV_eq]; unfold matR; simp only [decF_gC]
theorem fvR (l : List Fl) (b : Bool) (o : Ob) : FVR ⟨gC enF l, b, o⟩ = FV l := by unfold FVR; simp only [decF_gC]
theorem fi_cons (nd : List Nd) (q : List Fl) (i : Int) (r : List Int) : fiI nd q (i :: r) = if matL (gN nd i.toNat).e (gN nd i.toNat).r q then i else fiI nd q r := rfl
theorem Fi_piece : PieceOk EFi 5 (38, pFi, specFi) := by
  refine piece_loop mixed (calls_envT tFi_ok) (lok_envT _ _) lm_none (n := 100) (by kernel_rfl) (fun _ : GFi => (0 : Nat)) (fun g i => i ≤ g.n ∧ fiI g.s.nd g.q (g.l.drop i) = fiI g.s.nd g.q g.l) (fun g i => g.n - i) (sl := slFi) (rl := fun g _ => rlFi g) (fun g hg => ⟨Nat.zero_le _, rfl⟩) (fun g i hg hi => ?_)
  refine (Fi_round g i _ _).mpr ?_
  obtain ⟨s, y, q, l, z, o, n⟩ := g
  obtain ⟨g0, g1, g2, g3, g4⟩ := hg
  obtain ⟨h1, h2⟩ := hi
  simp only at g0 g1 g2 g3 g4 h1 h2
  have hnl : n = l.length := g1.2.2
  simp only [ofNat_eq, toNat_cast, Nat.zero_add, Nat.add_zero, Nat.mul_one, List.drop_zero, bCells_len, bCells_drop, bCells_take, bCells_app, bCells_one, bCells_plain, List.length_replicate, List.length_append, List.length_take, List.length_drop, List.take_length, and_true, true_and, and_self, decide_true, List.length_nil, List.length_cons, Nat.sub_zero, dB_mk, dB_ro, List.take_zero, fPl, fLen, nPl, mC_plain, iCells_plain, Nat.add_assoc, Nat.reduceAdd]
  refine br_if (fun h => br_dec (by omega) ?_) (fun h => ?_)
  · have hi : i < n := by omega
    obtain ⟨c1, c2⟩ := gi_get g1 hi
    have hx := g2 (l.getD i 0) (by rw [List.getD_eq_getElem?_getD, List.getElem?_eq_getElem (by omega)]; exact List.getElem_mem _)
    have w := i64_succ (show i < 9223372036854775807 by omega)
    simp only [c1, c2, true_and]
    refine br_dec hx ?_
    have hd : l.drop i = l.getD i 0 :: l.drop (i + 1) := by rw [List.drop_eq_getElem_cons (by omega), List.getD_eq_getElem?_getD, List.getElem?_eq_getElem (by omega)]; rfl
    rw [hd, fi_cons] at h2
    generalize l.getD i 0 = x at *
    have hx2 : x.toNat < s.nd.length := by omega
    obtain ⟨a0, a1, a2, a3, a4, a5, a6, a7, a8, a9, a10, a11, a12, a13, a14, a15⟩ := nGetA s.nd x.toNat hx2
    obtain ⟨b0, b1, b2, b3, b4, b4o, b4n, b5, b6, b7, b7o, b7n, b8, b9, b10, b11, b12, b13, b14, b15⟩ := nGetB s.nd x.toNat hx2
    obtain ⟨f1, f2⟩ := g3.2 x.toNat
    have i1 : ∀ l : List Fl, IsF ⟨gC enF l, true, .cells true⟩ l.length := fun l => isF_mk _ _ rfl
    simp only [a0, a1, a2, a3, a4, a5, a6, a7, a8, a9, a10, a11, b0, b1, b2, b3, b4, b4o, b4n, b5, b6, b7, b7o, b7n, b8, b9, b10, b11, gF0, gFt, fvR, z_ma, f1, f2, g4, i1, fTake, true_and, w]
    refine ⟨⟨⟨Nat.le_refl _, fPl _⟩, trivial⟩, br_intro (fun k => ⟨(), ?_⟩) (fun k => ⟨i + 1, ⟨by omega, ?_⟩, by omega, rfl⟩)⟩
    · rw [← h2, if_pos k]
    · rw [← h2, if_neg (by simp [k])]
  · have : l.drop i = [] := List.drop_eq_nil_of_le (by omega)
    rw [this] at h2
    exact ⟨(), h2.symm⟩
theorem Fi_con (s : SS) (y : RqX) (q : List Fl) (h1 : TOk y.s) (h2 : TOk y.a) (h3 : TOk y.p) (hl : (mget s.m (keyV y.s y.a y.p)).length ≤ 16777216) (hx : IxOk s.nd (mget s.m (keyV y.s y.a y.p))) (hn : NdOk s.nd) (hq : FV q) :
    ConM Try.prog 38 [.pointer (some ⟨0, 0, none⟩), .agg ⟨rqCells y 1 q.length⟩] [ssR s 2 3 4, gRo enF q, gOwn ndC s.nd, iOwn .i64 s.fr, mpR s.m] (.int .i64 (fiI s.nd q (mget s.m (keyV y.s y.a y.p)))) 5 (rwFi s q) := by
  refine conM_vc (E := EFi) mixed (calls_envT tFi_ok) (lok_envT _ _) (M := mFi) (lm_one Fi_piece) (Fi_vc s y q _) ?_
  have i1 : ∀ l : List Fl, IsF ⟨gC enF l, true, .cells true⟩ l.length := fun l => isF_mk _ _ rfl
  have gi := mC_gi (keyV y.s y.a y.p) s.m
  simp only [ofNat_eq, toNat_cast, Nat.zero_add, Nat.add_zero, Nat.mul_one, List.drop_zero, bCells_len, bCells_drop, bCells_take, bCells_app, bCells_one, bCells_plain, List.length_replicate, List.length_append, List.length_take, List.length_drop, List.take_length, and_true, true_and, and_self, decide_true, List.length_nil, List.length_cons, Nat.sub_zero, dB_mk, dB_ro, List.take_zero, fPl, fLen, nPl, mC_plain, iCells_plain, fTake, i1, h1, h2, h3, mC_keysS, mC_isone]
  refine ⟨Nat.le_refl _, ⟨s, y, q, mget s.m (keyV y.s y.a y.p), _, _, _⟩, ⟨Nat.le_trans (Nat.le_of_eq gi.2.2) hl, gi, hx, hn, hq⟩, rfl, rfl, rfl, rfl, rfl, rfl, rfl, rfl, rfl, rfl, rfl, rfl, rfl, rfl, rfl, rfl, rfl, rfl, rfl, rfl, fun side => br_side (fun _ h => ⟨h, rfl, rfl, rfl, rfl, rfl, rfl, rfl, rfl, rfl, rfl⟩) (fun _ _ => ⟨rfl, rfl, rfl, rfl, rfl, rfl, rfl, rfl, rfl, rfl, rfl⟩) side⟩
end Go.Proofs.Ytcjbpmphkmcmjaa.so
