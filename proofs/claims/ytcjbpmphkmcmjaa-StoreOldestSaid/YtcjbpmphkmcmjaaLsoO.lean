/- The store: Get, Peek, Keys. -/
import Derived.Test.YtcjbpmphkmcmjaaSz9
import Derived.Test.YtcjbpmphkmcmjaaRows
import Derived.Test.YtcjbpmphkmcmjaaLsoL
set_option maxRecDepth 20000
set_option linter.unusedSimpArgs false
set_option linter.unusedVariables false
namespace Go.Proofs.Ytcjbpmphkmcmjaa.so
open Go Go.Ev Go.Sy Go.RowKit Go.Proofs.Ytcjbpmphkmcmjaa.gl Go.Proofs.Ytcjbpmphkmcmjaa.tk Go.Proofs.Ytcjbpmphkmcmjaa.cp Go.Proofs.Ytcjbpmphkmcmjaa.ic
noncomputable def fiV : Row → Row → ByteArray → ByteArray → ByteArray → Row → Int := sealV fun r1 r3 s a p q => fiI (dNd r1) (decF q.cells) (mget (dMp r3) (keyV s a p))
noncomputable def eFi : EntM := (38, fun a r => match a, r with
  | [.pointer (some ⟨0, 0, none⟩), .agg ⟨[.string m, .string s, .string a, .string p, .slice (some ⟨1, 0, none⟩) n1 2, .int .i64 k]⟩], [⟨[.int .i64 bud, .int .i64 siz, .slice (some ⟨2, 0, none⟩) n 16, .slice (some ⟨3, 0, none⟩) fn 1, .int .i64 nw, .int .i64 ol, .map (some 4)], false, .cells false⟩, q, r1, r2, r3] =>
    some (TOk s ∧ TOk a ∧ TOk p ∧ IsF q n1 ∧ FVR q ∧ PDr bud siz nw ol fn n r1 r2 r3, .int .i64 (fiV r1 r3 s a p q), 5, [(0, ⟨[.int .i64 bud, .int .i64 siz, .slice (some ⟨2, 0, none⟩) n 16, .slice (some ⟨3, 0, none⟩) fn 1, .int .i64 nw, .int .i64 ol, .map (some 4)], false, .cells false⟩), (1, q), (2, r1), (3, r2), (4, r3)])
  | _, _ => none)
noncomputable def tGt : List EntM := [eFi, eRm, eAd, eCp]
noncomputable abbrev EGt : Env := envT Try.prog tGt
noncomputable def fnI (s : SS) (y : RqX) (q : List Fl) : Int := fiI s.nd q (mget s.m (keyV y.s y.a y.p))
noncomputable def enI (s : SS) (i : Int) : En := if i = -1 then ⟨exZ, [], []⟩ else ⟨(gN s.nd i.toNat).x, (gN s.nd i.toNat).e, (gN s.nd i.toNat).r⟩
noncomputable def geS (s : SS) (y : RqX) (q : List Fl) : SS := if fnI s y q = -1 then s else adS (rmS s (fnI s y q).toNat) (gN s.nd (fnI s y q).toNat)
structure GKy where
  s : SS
  o : List Nat
def pKy : List Nat := [0, 1, 0, 1, 1]
def kyL (s : SS) (o : List Nat) : List (List UInt8) := o.map fun i => L (gN s.nd i).key
def slKy (g : GKy) (j : Nat) : List (Nat × Value) := [(0, .pointer (some ⟨0, 0, none⟩)), (3, .slice (some ⟨4, 0, none⟩) (kyL g.s (g.o.take j)).length 1), (4, .int .i64 (hdQ (g.o.drop j) (-1)))]
noncomputable def rlKy (g : GKy) (j : Nat) : List (Nat × Row) := rwS g.s ++ [(4, gOwn enS (kyL g.s (g.o.take j)))]
noncomputable def wsKy (g : GKy) : List (Gate Unit) := [⟨.exit 0, fun _ => True, fun _ => [(3, .slice (some ⟨4, 0, none⟩) (kyL g.s g.o).length 1)], fun _ => rwS g.s ++ [(4, gOwn enS (kyL g.s g.o))], 5⟩]
noncomputable def specKy : Sy.Spec := specOf 4 5 31 (fun g : GKy => SInv g.s g.o ∧ Sz g.s g.o) (fun g => slKy g 0) (fun g => rlKy g 0) wsKy
noncomputable def mKy := mOf [(14, pKy, specKy)]
theorem Gt_vc (s s' : SS) (y : RqX) (q : List Fl) (a : En) (b : Bool) : mcall EGt noM 200 13 [.pointer (some ⟨0, 0, none⟩), .agg ⟨rqCells y 1 q.length⟩] ⟨mkR (nums 0 [ssR s 2 3 4, gRo enF q, gOwn ndC s.nd, iOwn .i64 s.fr, mpR s.m]), 5⟩ (retIsM 5 (.tuple ⟨[.agg ⟨enCells a.x 5 a.e.length 6 a.r.length⟩, .bool b]⟩) 9 [(0, ssR s' 7 8 4), (7, gOwn ndC s'.nd), (8, iOwn .i64 s'.fr), (4, mpR s'.m), (5, gOwn enF a.e), (6, gOwn enF a.r)]) =
  let z15 := (Row.mk (List.take (List.length q * 2) (List.drop 0 (gC enF q))) true (Ob.cells true)); let z1 := (fiV (Row.mk (gC ndC s.3) false (Ob.cells true)) (Row.mk (mC
  s.8) false (Ob.map true)) y.2 y.3 y.4 z15); let z2 := (Row.mk (iCells IntKind.i64 s.4) false (Ob.cells true)); let z12 := (rmSiz s.1 s.2 s.6 s.7 s.5 (Row.mk (gC ndC s.3)
  false (Ob.cells true)) z2 (Row.mk (mC s.8) false (Ob.map true)) z1); let z13 := (rmNw s.1 s.2 s.6 s.7 s.5 (Row.mk (gC ndC s.3) false (Ob.cells true)) z2 (Row.mk (mC s.8)
  false (Ob.map true)) z1); let z14 := (rmOl s.1 s.2 s.6 s.7 s.5 (Row.mk (gC ndC s.3) false (Ob.cells true)) z2 (Row.mk (mC s.8) false (Ob.map true)) z1); let z8 := (rmNd
  s.1 s.2 s.6 s.7 s.5 (Row.mk (gC ndC s.3) false (Ob.cells true)) z2 (Row.mk (mC s.8) false (Ob.map true)) z1); let z6 := (rmFr s.1 s.2 s.6 s.7 s.5 (Row.mk (gC ndC s.3)
  false (Ob.cells true)) z2 (Row.mk (mC s.8) false (Ob.map true)) z1); let z9 := (rmMc s.1 s.2 s.6 s.7 s.5 (Row.mk (gC ndC s.3) false (Ob.cells true)) z2 (Row.mk (mC s.8)
  false (Ob.map true)) z1); let z28 := (cellS (gC ndC s.3) (0 + Int.toNat z1 * 16 + 1)); let z27 := (cellS (gC ndC s.3) (0 + Int.toNat z1 * 16 + 1 + 1)); let z26 := (cellS
  (gC ndC s.3) (0 + Int.toNat z1 * 16 + 1 + 1 + 1)); let z17 := (cellZ (gC ndC s.3) (0 + Int.toNat z1 * 16 + 1 + 1 + 1 + 1)); let z24 := (cellI (gC ndC s.3) (0 + Int.toNat
  z1 * 16 + 1 + 1 + 1 + 1 + 1)); let z22 := (cellI (gC ndC s.3) (0 + Int.toNat z1 * 16 + 1 + 1 + 1 + 1 + 1 + 1)); let z5 := (0 + Int.toNat z1 * 16 + 1 + 1 + 1 + 1 + 1 + 1 +
  1); let z21 := (cellI (gC ndC s.3) (0 + Int.toNat z1 * 16 + 1 + 1 + 1 + 1 + 1 + 1 + 1 + 1)); let z20 := (cellS (gC ndC s.3) (0 + Int.toNat z1 * 16 + 1 + 1 + 1 + 1 + 1 + 1
  + 1 + 1 + 1)); let z19 := (cellI (gC ndC s.3) (0 + Int.toNat z1 * 16 + 1 + 1 + 1 + 1 + 1 + 1 + 1 + 1 + 1 + 1)); let z18 := (cellI (gC ndC s.3) (0 + Int.toNat z1 * 16 + 1 +
  1 + 1 + 1 + 1 + 1 + 1 + 1 + 1 + 1 + 1)); let z11 := (cellS (gC ndC s.3) (0 + Int.toNat z1 * 16 + 1 + 1 + 1 + 1 + 1 + 1 + 1 + 1 + 1 + 1 + 1 + 1)); let z10 := (cellI (gC ndC
  s.3) (0 + Int.toNat z1 * 16 + 1 + 1 + 1 + 1 + 1 + 1 + 1 + 1 + 1 + 1 + 1 + 1 + 1)); let z3 := (adNc s.1 z12 z13 z14 (s.5 + 1) (Row.mk z8 false (Ob.cells true)) (Row.mk z6
  false (Ob.cells true)) (Row.mk z9 false (Ob.map true)) (cellS (gC ndC s.3) (0 + Int.toNat z1 * 16)) z28 z27 z26 (decF (gCells z17)) z24 z22 (decF (gCells (cellZ (gC ndC
  s.3) z5))) z21 z20 z19 z18 z11 z10); let z4 := (adMc s.1 z12 z13 z14 (s.5 + 1) (Row.mk z8 false (Ob.cells true)) (Row.mk z6 false (Ob.cells true)) (Row.mk z9 false (Ob.map
  true)) (cellS (gC ndC s.3) (0 + Int.toNat z1 * 16)) z28 z27 z26 (decF (gCells z17)) z24 z22 (decF (gCells (cellZ (gC ndC s.3) z5))) z21 z20 z19 z18 z11 z10); let z30 :=
  (cellO (gC ndC s.3) (0 + Int.toNat z1 * 16 + 1 + 1 + 1 + 1)); let z7 := (List.take (cellN (gC ndC s.3) (0 + Int.toNat z1 * 16 + 1 + 1 + 1 + 1) * 2) (List.drop z30 (gCells
  z17))); let z16 := (List.take (cellN (gC ndC s.3) z5 * 2) (List.drop (cellO (gC ndC s.3) z5) (gCells (cellZ (gC ndC s.3) z5)))); let z23 := (True /\ (True /\ (True /\
  (True /\ (True /\ (True /\ (True /\ True))))))); let z25 := (Plain (gC ndC s.3) /\ (Plain (iCells IntKind.i64 s.4) /\ (Plain (mC s.8) /\ True))); let z29 := (cellN (gC ndC
  s.3) (0 + Int.toNat z1 * 16 + 1 + 1 + 1 + 1)); ((((True /\ ((True /\ (True /\ (True /\ (True /\ ((0 + List.length q * 2 <= List.length (gC enF q) /\ Plain (List.take
  (List.length q * 2) (List.drop 0 (gC enF q)))) /\ (True /\ True)))))) /\ True)) /\ ((z23 /\ (True /\ z25)) /\ (z25 /\ (TOk y.2 /\ (TOk y.3 /\ (TOk y.4 /\ (IsF z15
  (List.length q) /\ (FVR z15 /\ PDr s.1 s.2 s.6 s.7 s.5 (List.length s.3) (Row.mk (gC ndC s.3) false (Ob.cells true)) z2 (Row.mk (mC s.8) false (Ob.map true))))))))))) /\
  (br (fiV (Row.mk (gC ndC s.3) false (Ob.cells true)) (Row.mk (mC s.8) false (Ob.map true)) y.2 y.3 y.4 z15 == (-1 : Int)) ((a.1.1 = ByteArray.mk #[]) /\ ((a.1.2 =
  ByteArray.mk #[]) /\ ((a.1.3 = ByteArray.mk #[]) /\ ((a.1.4 = ByteArray.mk #[]) /\ ((List.length a.2 = 0) /\ ((a.1.5 = (0 : Int)) /\ ((a.1.6 = (0 : Int)) /\ ((List.length
  a.3 = 0) /\ ((a.1.7 = (0 : Int)) /\ ((a.1.8 = ByteArray.mk #[]) /\ ((a.1.9 = (0 : Int)) /\ ((a.1.10 = (0 : Int)) /\ ((b = false) /\ ((s'.1 = s.1) /\ ((s'.2 = s.2) /\ ((0 =
  0) /\ ((List.length s'.3 = List.length s.3) /\ ((0 = 0) /\ ((s'.5 = s.5) /\ ((s'.6 = s.6) /\ ((s'.7 = s.7) /\ ((Eq (α := List Value) (gC ndC s'.3) (gC ndC s.3)) /\ ((Plain
  (gC ndC s'.3)) /\ ((Eq (α := List Value) (iCells IntKind.i64 s'.4) (iCells IntKind.i64 s.4)) /\ ((Plain (iCells IntKind.i64 s'.4)) /\ ((Eq (α := List Value) (mC s'.8) (mC
  s.8)) /\ ((Plain (mC s'.8)) /\ ((Eq (α := List Value) (gC enF a.2) ([])) /\ ((Eq (α := List Value) (gC enF a.3) ([])) /\ True))))))))))))))))))))))))))))) (br (decide ((0
  : Int) <= fiV (Row.mk (gC ndC s.3) false (Ob.cells true)) (Row.mk (mC s.8) false (Ob.map true)) y.2 y.3 y.4 z15 /\ fiV (Row.mk (gC ndC s.3) false (Ob.cells true)) (Row.mk
  (mC s.8) false (Ob.map true)) y.2 y.3 y.4 z15 < (↑(List.length s.3) : Int))) ((Eq (α := Option Value) ((gC ndC s.3)[0 + Int.toNat z1 * 16]?) (some (Value.string (cellS (gC
  ndC s.3) (0 + Int.toNat z1 * 16))))) /\ ((Eq (α := Option Value) ((gC ndC s.3)[0 + Int.toNat z1 * 16 + 1]?) (some (Value.string z28))) /\ ((Eq (α := Option Value) ((gC ndC
  s.3)[0 + Int.toNat z1 * 16 + 1 + 1]?) (some (Value.string z27))) /\ ((Eq (α := Option Value) ((gC ndC s.3)[0 + Int.toNat z1 * 16 + 1 + 1 + 1]?) (some (Value.string z26)))
  /\ ((Eq (α := Option Value) ((gC ndC s.3)[0 + Int.toNat z1 * 16 + 1 + 1 + 1 + 1]?) (some (Value.slice (some (Addr.mk z17 z30 (some 0))) z29 2))) /\ ((Eq (α := Option
  Value) ((gC ndC s.3)[0 + Int.toNat z1 * 16 + 1 + 1 + 1 + 1 + 1]?) (some (Value.int IntKind.i64 z24))) /\ ((Eq (α := Option Value) ((gC ndC s.3)[0 + Int.toNat z1 * 16 + 1 +
  1 + 1 + 1 + 1 + 1]?) (some (Value.int IntKind.i64 z22))) /\ ((Eq (α := Option Value) ((gC ndC s.3)[0 + Int.toNat z1 * 16 + 1 + 1 + 1 + 1 + 1 + 1 + 1]?) (some (Value.slice
  (some (Addr.mk (cellZ (gC ndC s.3) z5) (cellO (gC ndC s.3) z5) (some 0))) (cellN (gC ndC s.3) z5) 2))) /\ ((Eq (α := Option Value) ((gC ndC s.3)[0 + Int.toNat z1 * 16 + 1
  + 1 + 1 + 1 + 1 + 1 + 1 + 1]?) (some (Value.int IntKind.i64 z21))) /\ ((Eq (α := Option Value) ((gC ndC s.3)[0 + Int.toNat z1 * 16 + 1 + 1 + 1 + 1 + 1 + 1 + 1 + 1 + 1]?)
  (some (Value.string z20))) /\ ((Eq (α := Option Value) ((gC ndC s.3)[0 + Int.toNat z1 * 16 + 1 + 1 + 1 + 1 + 1 + 1 + 1 + 1 + 1 + 1]?) (some (Value.int IntKind.i64 z19)))
  /\ ((Eq (α := Option Value) ((gC ndC s.3)[0 + Int.toNat z1 * 16 + 1 + 1 + 1 + 1 + 1 + 1 + 1 + 1 + 1 + 1 + 1]?) (some (Value.int IntKind.i64 z18))) /\ ((Eq (α := Option
  Value) ((gC ndC s.3)[0 + Int.toNat z1 * 16 + 1 + 1 + 1 + 1 + 1 + 1 + 1 + 1 + 1 + 1 + 1 + 1]?) (some (Value.string z11))) /\ ((Eq (α := Option Value) ((gC ndC s.3)[0 +
  Int.toNat z1 * 16 + 1 + 1 + 1 + 1 + 1 + 1 + 1 + 1 + 1 + 1 + 1 + 1 + 1]?) (some (Value.int IntKind.i64 z10))) /\ ((Eq (α := Option Value) ((gC ndC s.3)[0 + Int.toNat z1 *
  16 + 1 + 1 + 1 + 1 + 1 + 1 + 1 + 1 + 1 + 1 + 1 + 1 + 1 + 1]?) (some (Value.int IntKind.i64 (cellI (gC ndC s.3) (0 + Int.toNat z1 * 16 + 1 + 1 + 1 + 1 + 1 + 1 + 1 + 1 + 1 +
  1 + 1 + 1 + 1 + 1))))) /\ ((Eq (α := Option Value) ((gC ndC s.3)[0 + Int.toNat z1 * 16 + 1 + 1 + 1 + 1 + 1 + 1 + 1 + 1 + 1 + 1 + 1 + 1 + 1 + 1 + 1]?) (some (Value.int
  IntKind.i64 (cellI (gC ndC s.3) (0 + Int.toNat z1 * 16 + 1 + 1 + 1 + 1 + 1 + 1 + 1 + 1 + 1 + 1 + 1 + 1 + 1 + 1 + 1))))) /\ ((((True /\ (True /\ True)) /\ ((z23 /\ z25) /\
  ((Plain z8 /\ (Plain z6 /\ (Plain z9 /\ True))) /\ PRm s.1 s.2 s.6 s.7 s.5 (List.length s.3) (Row.mk (gC ndC s.3) false (Ob.cells true)) z2 (Row.mk (mC s.8) false (Ob.map
  true)) z1)))) /\ ((((True /\ ((True /\ (True /\ (True /\ (True /\ (True /\ (True /\ (True /\ (True /\ (True /\ z23))))))))) /\ True)) /\ ((z23 /\ (Plain z8 /\ (Plain z6 /\
  (Plain z9 /\ True)))) /\ ((Plain z3 /\ (Plain z6 /\ (Plain z4 /\ True))) /\ (GF z17 z30 z29 /\ (GF (cellZ (gC ndC s.3) z5) (cellO (gC ndC s.3) z5) (cellN (gC ndC s.3) z5)
  /\ PAd s.1 z12 z13 z14 (s.5 + 1) (List.length s.3) (Row.mk z8 false (Ob.cells true)) (Row.mk z6 false (Ob.cells true)) (Row.mk z9 false (Ob.map true)) z11 z10)))))) /\
  (((((True /\ (True /\ (True /\ (True /\ (cellO (gC ndC s.3) (0 + Int.toNat z1 * 16 + 1 + 1 + 1 + 1) + cellN (gC ndC s.3) (0 + Int.toNat z1 * 16 + 1 + 1 + 1 + 1) * 2 <=
  List.length (gCells z17) /\ (True /\ (True /\ (cellO (gC ndC s.3) z5 + cellN (gC ndC s.3) z5 * 2 <= List.length (gCells (cellZ (gC ndC s.3) z5)) /\ (True /\ (True /\ (True
  /\ (True /\ True)))))))))))) /\ True) /\ ((True /\ (True /\ True)) /\ ((Plain z7 /\ (Plain z16 /\ True)) /\ (IsF (Row.mk z7 true (Ob.cells true)) z29 /\ (IsF (Row.mk z16
  true (Ob.cells true)) (cellN (gC ndC s.3) z5) /\ (FOkR (Row.mk z7 true (Ob.cells true)) /\ FOkR (Row.mk z16 true (Ob.cells true))))))))) /\ ((a.1.1 = cellS (gC ndC s.3) (0
  + Int.toNat z1 * 16)) /\ ((a.1.2 = cellS (gC ndC s.3) (0 + Int.toNat z1 * 16 + 1)) /\ ((a.1.3 = cellS (gC ndC s.3) (0 + Int.toNat z1 * 16 + 1 + 1)) /\ ((a.1.4 = cellS (gC
  ndC s.3) (0 + Int.toNat z1 * 16 + 1 + 1 + 1)) /\ ((0 = 0) /\ ((List.length a.2 = cellN (gC ndC s.3) (0 + Int.toNat z1 * 16 + 1 + 1 + 1 + 1)) /\ ((a.1.5 = cellI (gC ndC
  s.3) (0 + Int.toNat z1 * 16 + 1 + 1 + 1 + 1 + 1)) /\ ((a.1.6 = cellI (gC ndC s.3) (0 + Int.toNat z1 * 16 + 1 + 1 + 1 + 1 + 1 + 1)) /\ ((0 = 0) /\ ((List.length a.3 = cellN
  (gC ndC s.3) z5) /\ ((a.1.7 = cellI (gC ndC s.3) (0 + Int.toNat z1 * 16 + 1 + 1 + 1 + 1 + 1 + 1 + 1 + 1)) /\ ((a.1.8 = cellS (gC ndC s.3) (0 + Int.toNat z1 * 16 + 1 + 1 +
  1 + 1 + 1 + 1 + 1 + 1 + 1)) /\ ((a.1.9 = cellI (gC ndC s.3) (0 + Int.toNat z1 * 16 + 1 + 1 + 1 + 1 + 1 + 1 + 1 + 1 + 1 + 1)) /\ ((a.1.10 = cellI (gC ndC s.3) (0 +
  Int.toNat z1 * 16 + 1 + 1 + 1 + 1 + 1 + 1 + 1 + 1 + 1 + 1 + 1)) /\ ((b = true) /\ ((s'.1 = s.1) /\ ((s'.2 = adSiz s.1 z12 z13 z14 (s.5 + 1) (Row.mk z8 false (Ob.cells
  true)) (Row.mk z6 false (Ob.cells true)) (Row.mk z9 false (Ob.map true)) (cellS (gC ndC s.3) (0 + Int.toNat z1 * 16)) z28 z27 z26 (decF (gCells z17)) z24 z22 (decF (gCells
  (cellZ (gC ndC s.3) z5))) z21 z20 z19 z18 z11 z10) /\ ((0 = 0) /\ ((List.length s'.3 = adLn (s.5 + 1) (List.length s.3)) /\ ((0 = 0) /\ ((s'.5 = s.5 + 1 - 1) /\ ((s'.6 =
  adNw s.1 z12 z13 z14 (s.5 + 1) (Row.mk z8 false (Ob.cells true)) (Row.mk z6 false (Ob.cells true)) (Row.mk z9 false (Ob.map true)) (cellS (gC ndC s.3) (0 + Int.toNat z1 *
  16)) z28 z27 z26 (decF (gCells z17)) z24 z22 (decF (gCells (cellZ (gC ndC s.3) z5))) z21 z20 z19 z18 z11 z10) /\ ((s'.7 = adOl s.1 z12 z13 z14 (s.5 + 1) (Row.mk z8 false
  (Ob.cells true)) (Row.mk z6 false (Ob.cells true)) (Row.mk z9 false (Ob.map true)) (cellS (gC ndC s.3) (0 + Int.toNat z1 * 16)) z28 z27 z26 (decF (gCells z17)) z24 z22
  (decF (gCells (cellZ (gC ndC s.3) z5))) z21 z20 z19 z18 z11 z10) /\ ((Eq (α := List Value) (gC ndC s'.3) z3) /\ ((Plain (gC ndC s'.3)) /\ ((Eq (α := List Value) (iCells
  IntKind.i64 s'.4) z6) /\ ((Plain (iCells IntKind.i64 s'.4)) /\ ((Eq (α := List Value) (mC s'.8) z4) /\ ((Plain (mC s'.8)) /\ ((Eq (α := List Value) (gC enF a.2) z7) /\
  ((Plain (gC enF a.2)) /\ ((Eq (α := List Value) (gC enF a.3) z16) /\ ((Plain (gC enF a.3)) /\ True)))))))))))))))))))))))))))))))))))))))))))))))))))) False))) := by kernel_rfl
theorem Ky_round (g : GKy) (j : Nat) (Inv : Nat → Prop) (m : Nat → Nat) : mev ERm noM 100 14 (0 :: pKy) false (codeOf Try.prog 14 (0 :: pKy)) ⟨mkOv (slKy g j), 31, []⟩ none ⟨mkR (rlKy g j), 5⟩ (roundK 4 5 31 Inv m (slKy g) (rlKy g) (wsKy g) j) =
  let z1 := (decide ((0 : Int) <= hdQ (List.drop j g.2) (-1 : Int) /\ hdQ (List.drop j g.2) (-1 : Int) < (↑(List.length g.1.3) : Int))); let z2 := (cellS (gC ndC g.1.3) (0 +
  Int.toNat (hdQ (List.drop j g.2) (-1 : Int)) * 16 + 12)); let z3 := (Eq (α := List Value) (iCells IntKind.i64 g.1.4) (iCells IntKind.i64 g.1.4)); let z4 := (0 + Int.toNat
  (hdQ (List.drop j g.2) (-1 : Int)) * 16 + 15); let z5 := (Eq (α := List Value) (gC ndC g.1.3) (gC ndC g.1.3)); (br (hdQ (List.drop j g.2) (-1 : Int) != (-1 : Int)) (br z1
  ((Eq (α := Option Value) ((gC ndC g.1.3)[0 + Int.toNat (hdQ (List.drop j g.2) (-1 : Int)) * 16 + 12]?) (some (Value.string z2))) /\ (br (decide (List.length (kyL (GKy.s g)
  (List.take j g.2)) + 1 <= 16777216)) (br (decide (0 + List.length (kyL (GKy.s g) (List.take j g.2)) * 1 <= List.length (gC enS (kyL (GKy.s g) (List.take j g.2))))) (br z1
  ((Eq (α := Option Value) ((gC ndC g.1.3)[0 + Int.toNat (hdQ (List.drop j g.2) (-1 : Int)) * 16 + 15]?) (some (Value.int IntKind.i64 (cellI (gC ndC g.1.3) z4)))) /\ (∃ j2 :
  Nat, ((Inv j2) /\ ((m j2 < m j) /\ ((0 = 0) /\ ((0 = 0) /\ ((List.length (kyL (GKy.s g) (List.take j2 g.2)) = List.length (kyL (GKy.s g) (List.take j g.2)) + 1) /\ ((hdQ
  (List.drop j2 g.2) (-1 : Int) = cellI (gC ndC g.1.3) z4) /\ ((g.1.1 = g.1.1) /\ ((g.1.2 = g.1.2) /\ ((0 = 0) /\ ((List.length g.1.3 = List.length g.1.3) /\ ((0 = 0) /\
  ((g.1.5 = g.1.5) /\ ((g.1.6 = g.1.6) /\ ((g.1.7 = g.1.7) /\ (z5 /\ ((Plain (gC ndC g.1.3)) /\ (z3 /\ ((Plain (iCells IntKind.i64 g.1.4)) /\ ((Eq (α := List Value) (mC
  g.1.8) (mC g.1.8)) /\ ((Plain (mC g.1.8)) /\ ((Eq (α := List Value) (gC enS (kyL (GKy.s g) (List.take j2 g.2))) (List.take (List.length (kyL (GKy.s g) (List.take j g.2)) *
  1) (List.drop 0 (gC enS (kyL (GKy.s g) (List.take j g.2)))) ++ [Value.string z2])) /\ ((Plain (gC enS (kyL (GKy.s g) (List.take j2 g.2)))) /\ True))))))))))))))))))))))))
  False) False) False)) False) (∃ y : Unit, ((True) /\ ((0 = 0) /\ ((List.length (kyL (GKy.s g) g.2) = List.length (kyL (GKy.s g) (List.take j g.2))) /\ ((g.1.1 = g.1.1) /\
  ((g.1.2 = g.1.2) /\ ((0 = 0) /\ ((List.length g.1.3 = List.length g.1.3) /\ ((0 = 0) /\ ((g.1.5 = g.1.5) /\ ((g.1.6 = g.1.6) /\ ((g.1.7 = g.1.7) /\ (z5 /\ ((Plain (gC ndC
  g.1.3)) /\ (z3 /\ ((Plain (iCells IntKind.i64 g.1.4)) /\ ((Eq (α := List Value) (mC g.1.8) (mC g.1.8)) /\ ((Plain (mC g.1.8)) /\ ((Eq (α := List Value) (gC enS (kyL (GKy.s
  g) g.2)) (gC enS (kyL (GKy.s g) (List.take j g.2)))) /\ ((Plain (gC enS (kyL (GKy.s g) g.2))) /\ True))))))))))))))))))))) := by kernel_rfl
theorem Ky_vc (s : SS) (k : List (List UInt8)) : mcall ERm mKy 100 14 [.pointer (some ⟨0, 0, none⟩)] ⟨mkR (nums 0 [ssR s 1 2 3, gOwn ndC s.nd, iOwn .i64 s.fr, mpR s.m]), 4⟩ (retIsM 4 (.slice (some ⟨4, 0, none⟩) k.length 1) 5 (rwS s ++ [(4, gOwn enS k)])) =
  (∃ g : GKy, ((SInv (GKy.s g) g.2 /\ Sz (GKy.s g) g.2) /\ ((0 = 0) /\ ((0 = 0) /\ ((hdQ (List.drop 0 g.2) (-1 : Int) = s.6) /\ ((g.1.1 = s.1) /\ ((g.1.2 = s.2) /\ ((0 = 0)
  /\ ((List.length g.1.3 = List.length s.3) /\ ((0 = 0) /\ ((g.1.5 = s.5) /\ ((g.1.6 = s.6) /\ ((g.1.7 = s.7) /\ ((Eq (α := List Value) (gC ndC g.1.3) (gC ndC s.3)) /\
  ((Plain (gC ndC g.1.3)) /\ ((Eq (α := List Value) (iCells IntKind.i64 g.1.4) (iCells IntKind.i64 s.4)) /\ ((Plain (iCells IntKind.i64 g.1.4)) /\ ((Eq (α := List Value) (mC
  g.1.8) (mC s.8)) /\ ((Plain (mC g.1.8)) /\ ((Eq (α := List Value) ([]) ([])) /\ (∀ (y : Unit), ((True) → ((0 = 0) /\ ((List.length k = List.length (kyL (GKy.s g) g.2)) /\
  ((s.1 = g.1.1) /\ ((s.2 = g.1.2) /\ ((0 = 0) /\ ((List.length s.3 = List.length g.1.3) /\ ((0 = 0) /\ ((s.5 = g.1.5) /\ ((s.6 = g.1.6) /\ ((s.7 = g.1.7) /\ ((Eq (α := List
  Value) (gC ndC s.3) (gC ndC g.1.3)) /\ ((Plain (gC ndC s.3)) /\ ((Eq (α := List Value) (iCells IntKind.i64 s.4) (iCells IntKind.i64 g.1.4)) /\ ((Plain (iCells IntKind.i64
  s.4)) /\ ((Eq (α := List Value) (mC s.8) (mC g.1.8)) /\ ((Plain (mC s.8)) /\ ((Eq (α := List Value) (gC enS k) (gC enS (kyL (GKy.s g) g.2))) /\ ((Plain (gC enS k)) /\
  True)))))))))))))))))))))))))))))))))))))))) := by kernel_rfl
theorem fiV_mk (s : SS) (S A P : ByteArray) (q : List Fl) (b : Bool) (o : Ob) : fiV ⟨gC ndC s.nd, false, .cells true⟩ ⟨mC s.m, false, .map true⟩ S A P ⟨gC enF q, b, o⟩ = fiI s.nd q (mget s.m (keyV S A P)) := by
  unfold fiV; rw [sealV_eq]; simp only [dNd_mk, dMp_mk, decF_gC]
theorem ndOk_of {s : SS} {ord : List Nat} (hz : Sz s ord) : NdOk s.nd := ⟨by have := hz.len; omega, hz.fv⟩
theorem eFi_ok : EntOk Try.prog eFi := by
  intro a rows qq v n' rl h hp
  unfold eFi at h
  simp only at h
  split at h
  · rename_i m s a p n1 k bud siz n fn nw ol q r1 r2 r3
    simp only [Option.some.injEq, Prod.mk.injEq] at h
    obtain ⟨rfl, rfl, rfl, rfl⟩ := h
    obtain ⟨t1, t2, t3, ⟨l, rfl, rfl⟩, hq, S, ord, ⟨rfl, rfl, rfl, rfl, rfl, rfl, rfl, rfl, rfl⟩, h1, h2⟩ := hp
    unfold gRo at hq
    rw [fvR] at hq
    obtain ⟨d1, d2, d3⟩ := mget_ok h1 h2 (keyV s a p)
    have hc := Fi_con S ⟨m, s, a, p, k⟩ l t1 t2 t3 (by simp only; omega) d3 (ndOk_of h2) hq
    simp only at hc
    rw [show fiV (gOwn ndC S.nd) (mpR S.m) s a p (gRo enF l) = _ from fiV_mk S s a p l _ _]
    exact hc
  · simp at h
theorem tGt_ok : ∀ x ∈ tGt, EntOk Try.prog x := all_cons eFi_ok (all_cons eRm_ok (all_cons eAd_ok (all_cons eCp_ok all_nil)))
theorem fi_in (nd : List Nd) (q : List Fl) : ∀ l : List Int, fiI nd q l = -1 ∨ fiI nd q l ∈ l
  | [] => .inl rfl
  | i :: l => by
    rw [fi_cons]
    split
    · exact .inr (by simp)
    · rcases fi_in nd q l with h | h
      · exact .inl h
      · exact .inr (List.mem_cons_of_mem _ h)
theorem Gt_con (s : SS) (ord : List Nat) (h : SInv s ord) (hz : Sz s ord) (y : RqX) (q : List Fl) (t1 : TOk y.s) (t2 : TOk y.a) (t3 : TOk y.p) (hq : FV q) : ConM Try.prog 13 [.pointer (some ⟨0, 0, none⟩), .agg ⟨rqCells y 1 q.length⟩] [ssR s 2 3 4, gRo enF q, gOwn ndC s.nd, iOwn .i64 s.fr, mpR s.m] (.tuple ⟨[.agg ⟨enCells (enI s (fnI s y q)).x 5 (enI s (fnI s y q)).e.length 6 (enI s (fnI s y q)).r.length⟩, .bool (decide (fnI s y q ≠ -1))]⟩) 9 [(0, ssR (geS s y q) 7 8 4), (7, gOwn ndC (geS s y q).nd), (8, iOwn .i64 (geS s y q).fr), (4, mpR (geS s y q).m), (5, gOwn enF (enI s (fnI s y q)).e), (6, gOwn enF (enI s (fnI s y q)).r)] := by
  refine conM_vc (E := EGt) mixed (calls_envT tGt_ok) (lok_envT _ _) (M := noM) lm_none (Gt_vc s _ y q _ _) ?_
  have i1 : ∀ l : List Fl, IsF ⟨gC enF l, true, .cells true⟩ l.length := fun l => isF_mk _ _ rfl
  have hpd := pDr_mk s ord h hz
  have hk : fiI s.nd q (mget s.m (keyV y.s y.a y.p)) = fnI s y q := rfl
  simp only [ofNat_eq, toNat_cast, Nat.zero_add, Nat.add_zero, Nat.mul_one, List.drop_zero, bCells_len, bCells_drop, bCells_take, bCells_app, bCells_one, bCells_plain, List.length_replicate, List.length_append, List.length_take, List.length_drop, List.take_length, and_true, true_and, and_self, decide_true, List.length_nil, List.length_cons, Nat.sub_zero, dB_mk, dB_ro, List.take_zero, fPl, fLen, fTake, nPl, mC_plain, iCells_plain, Nat.add_assoc, Nat.reduceAdd, fvR, fiV_mk, hk, i1, t1, t2, t3, hq, hpd, Nat.le_refl, true_and, and_true]
  refine br_intro (fun k => ?_) (fun k => ?_)
  · have k : fnI s y q = -1 := by simpa using k
    have e : enI s (fnI s y q) = ⟨exZ, [], []⟩ := if_pos k
    have e2 : geS s y q = s := if_pos k
    rw [e, e2, k]
    exact ⟨rfl, rfl, rfl, rfl, rfl, rfl, rfl, rfl, rfl, rfl, rfl, rfl, by simp, rfl, rfl, rfl, rfl, rfl, rfl, rfl, rfl, rfl, rfl, rfl⟩
  · have k : ¬ fnI s y q = -1 := by simpa using k
    have e : enI s (fnI s y q) = ⟨(gN s.nd (fnI s y q).toNat).x, (gN s.nd (fnI s y q).toNat).e, (gN s.nd (fnI s y q).toNat).r⟩ := if_neg k
    have e2 : geS s y q = adS (rmS s (fnI s y q).toNat) (gN s.nd (fnI s y q).toNat) := if_neg k
    rw [e, e2, decide_eq_true k]
    obtain ⟨d1, d2, d3⟩ := mget_ok h hz (keyV y.s y.a y.p)
    have hin := (fi_in s.nd q _).resolve_left k
    rw [hk] at hin
    have hx := d3 _ hin
    obtain ⟨j, hj, hji⟩ := (mget_in h (keyV y.s y.a y.p)).2 _ hin
    generalize fnI s y q = i at *
    subst hji
    have hx2 : (Int.toNat ((j : Nat) : Int)) < s.nd.length := by omega
    obtain ⟨a0, a1, a2, a3, a4, a5, a6, a7, a8, a9, a10, a11, a12, a13, a14, a15⟩ := nGetA s.nd (Int.toNat ((j : Nat) : Int)) hx2
    obtain ⟨b0, b1, b2, b3, b4, b4o, b4n, b5, b6, b7, b7o, b7n, b8, b9, b10, b11, b12, b13, b14, b15⟩ := nGetB s.nd (Int.toNat ((j : Nat) : Int)) hx2
    obtain ⟨f1, f2⟩ := hz.fv j
    obtain ⟨m1, m2, m3, m4, m5, m6⟩ := rm_mk s ((j : Nat) : Int)
    have hp := pRm_mk s ((j : Nat) : Int) (preRm_of h hz hj)
    obtain ⟨r1, r2⟩ := SInv_rm h hj
    have r3 := sz_rm h hz hj
    have hcst := hz.cst j hj
    have hpa := pAd_mk (rmS s j) (gN s.nd j).key (gN s.nd j).cost fun x e r w o => preAd_of r1 r3 hcst x e r w o
    obtain ⟨k1, k2, k3, k4, k5, k6⟩ := ad_mk (rmS s j) (gN s.nd j).x (gN s.nd j).e (gN s.nd j).r (gN s.nd j).key (gN s.nd j).cost
    refine br_dec hx ?_
    simp only [a0, a1, a2, a3, a4, a5, a6, a7, a8, a9, a10, a11, a12, a13, a14, a15, b0, b1, b2, b3, b4, b4o, b4n, b5, b6, b7, b7o, b7n, b8, b9, b10, b11, b12, b13, b14, b15, gF0, gFt, fokR, i1, fTake, fPl, m1, m2, m3, m4, m5, m6, hp, nPl, mC_plain, iCells_plain, true_and, and_true]
    simp only [Int.toNat_natCast] at *
    have q1 : (rmS s j).bud = s.bud := rfl
    have q2 : (rmS s j).fn = s.fn + 1 := rfl
    have q3 : (rmS s j).nd.length = s.nd.length := rmS_len s j
    simp only [q1, q2, q3] at k1 k2 k3 k4 k5 k6 hpa
    simp only [k1, k2, k3, k4, k5, k6, hpa, gF, decF_gC, gf_mk, f1.1, f2.1, true_and, and_true]
    have e3 : adS (rmS s j) ⟨(gN s.nd j).x, (gN s.nd j).e, (gN s.nd j).r, (gN s.nd j).key, (gN s.nd j).cost, 0, 0⟩ = adS (rmS s j) (gN s.nd j) := rfl
    simp only [e3, nPl, mC_plain, true_and, and_true]
    exact ⟨rfl, rfl, rfl⟩
theorem kyL_snoc (s : SS) (o : List Nat) (j : Nat) (h : j < o.length) : kyL s (o.take (j + 1)) = kyL s (o.take j) ++ [L (gN s.nd o[j]).key] := by
  unfold kyL; rw [List.take_succ_eq_append_getElem h, List.map_append]; rfl
theorem Ky_piece : PieceOk ERm 4 (14, pKy, specKy) := by
  refine piece_loop mixed (calls_envT all_nil) (lok_envT _ _) lm_none (n := 100) (by kernel_rfl) (fun _ : GKy => (0 : Nat)) (fun g j => j ≤ g.o.length) (fun g j => g.o.length - j) (sl := slKy) (rl := rlKy) (fun g hg => Nat.zero_le _) (fun g j hg hj => ?_)
  refine (Ky_round g j _ _).mpr ?_
  obtain ⟨s, o⟩ := g
  obtain ⟨h, hz⟩ := hg
  simp only at h hz hj
  simp only [ofNat_eq, toNat_cast, Nat.zero_add, Nat.add_zero, Nat.mul_one, List.drop_zero, bCells_len, bCells_drop, bCells_take, bCells_app, bCells_one, bCells_plain, List.length_replicate, List.length_append, List.length_take, List.length_drop, List.take_length, and_true, true_and, and_self, decide_true, List.length_nil, List.length_cons, Nat.sub_zero, dB_mk, dB_ro, List.take_zero, nPl, mC_plain, iCells_plain, sPl, sLen, Nat.le_refl]
  by_cases hlt : j < o.length
  · have hd : o.drop j = o[j] :: o.drop (j + 1) := List.drop_eq_getElem_cons hlt
    have hh : hdQ (o.drop j) (-1) = ((o[j] : Nat) : Int) := by rw [hd]; rfl
    have hin : o[j] ∈ o := List.getElem_mem hlt
    have hx2 := h.lt _ hin
    obtain ⟨a0, a1, a2, a3, a4, a5, a6, a7, a8, a9, a10, a11, a12, a13, a14, a15⟩ := nGetA s.nd o[j] hx2
    obtain ⟨b0, b1, b2, b3, b4, b4o, b4n, b5, b6, b7, b7o, b7n, b8, b9, b10, b11, b12, b13, b14, b15⟩ := nGetB s.nd o[j] hx2
    have hol : (gN s.nd o[j]).ol = hdQ (o.drop (j + 1)) (-1) := by
      have hdl := h.dl
      rw [← List.take_append_drop j o, hd] at hdl
      exact ((DL_app _ _ _ _ _).1 hdl).2.2.1
    have hkl : (kyL s (o.take j)).length ≤ 1000 := by
      unfold kyL; rw [List.length_map]
      have := h.cnt; have := hz.len
      exact Nat.le_trans (List.length_take_le _ _) (by omega)
    have hsn := kyL_snoc s o j hlt
    rw [hh, Int.toNat_natCast]
    simp only [a12, a15, b12, b15, true_and]
    refine br_b (by simp) (br_dec (by omega) (br_dec (by omega) (br_dec (by omega) ⟨j + 1, by omega, by omega, ?_, hol.symm, ?_⟩)))
    · rw [hsn, List.length_append]; rfl
    · rw [hsn, ← gC_app]
      generalize kyL s (o.take j) = F
      rw [List.take_of_length_le (by rw [sLen]; exact Nat.le_refl _)]
      rfl
  · have he : j = o.length := by omega
    have hd : o.drop j = [] := List.drop_eq_nil_of_le (by omega)
    rw [hd, List.take_of_length_le (by omega)]
    exact br_nb rfl ⟨(), rfl, rfl⟩
theorem Ky_con (s : SS) (ord : List Nat) (h : SInv s ord) (hz : Sz s ord) : ConM Try.prog 14 [.pointer (some ⟨0, 0, none⟩)] [ssR s 1 2 3, gOwn ndC s.nd, iOwn .i64 s.fr, mpR s.m] (.slice (some ⟨4, 0, none⟩) (kyL s ord).length 1) 5 (rwS s ++ [(4, gOwn enS (kyL s ord))]) := by
  refine conM_vc (E := ERm) mixed (calls_envT all_nil) (lok_envT _ _) (M := mKy) (lm_one Ky_piece) (Ky_vc s _) ?_
  simp only [ofNat_eq, toNat_cast, Nat.zero_add, Nat.add_zero, Nat.mul_one, List.drop_zero, bCells_len, bCells_drop, bCells_take, bCells_app, bCells_one, bCells_plain, List.length_replicate, List.length_append, List.length_take, List.length_drop, List.take_length, and_true, true_and, and_self, decide_true, List.length_nil, List.length_cons, Nat.sub_zero, dB_mk, dB_ro, List.take_zero, nPl, mC_plain, iCells_plain, sPl]
  refine ⟨⟨s, ord⟩, ⟨h, hz⟩, h.nw.symm, rfl, rfl, rfl, rfl, rfl, rfl, rfl, rfl, rfl, fun _ _ => ⟨rfl, rfl, rfl, rfl, rfl, rfl, rfl, rfl, rfl, rfl, rfl⟩⟩
end Go.Proofs.Ytcjbpmphkmcmjaa.so
