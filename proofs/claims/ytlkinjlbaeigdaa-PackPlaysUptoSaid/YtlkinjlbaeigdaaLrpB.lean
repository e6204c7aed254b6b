/- How the document's own packer writes a block. -/
import Derived.Test.YtlkinjlbaeigdaaSz9
import Derived.Test.YtlkinjlbaeigdaaRows
import Derived.Test.YtlkinjlbaeigdaaLrpA
set_option maxRecDepth 20000
set_option linter.unusedSimpArgs false
set_option linter.unusedVariables false
namespace Go.Proofs.Ytlkinjlbaeigdaa.pk
open Go Go.Ev Go.Sy Go.RowKit Go.Proofs.Ytlkinjlbaeigdaa.gl Go.Proofs.Ytlkinjlbaeigdaa.tk Go.Proofs.Ytlkinjlbaeigdaa.hf Go.Proofs.Ytlkinjlbaeigdaa.s3 Go.Proofs.Ytlkinjlbaeigdaa.tb Go.Proofs.Ytlkinjlbaeigdaa.sh
noncomputable def tRb : List EntM := [eRPt, eRpu, eFndR, eAddR]
noncomputable abbrev EtRb : Env := envT Try.prog tRb
def pRb : List Nat := [0, 1, 0, 1, 1, 1]
structure GRb where
  l : List Wr
  t : Tb
  k : Int
  w : Int
  o : List UInt8
noncomputable def slRb (g : GRb) (s : SBk) : List (Nat × Value) := [(0, .pointer (some ⟨0, 0, none⟩)), (1, .slice (some ⟨1, 0, none⟩) g.l.length 3), (5, .slice (some ⟨5, 0, none⟩) s.o.length 1), (6, .int .i64 (s.i : Nat))]
noncomputable def rlRb (g : GRb) (s : SBk) : List (Nat × Row) := [(0, ⟨[.pointer (some ⟨2, 0, none⟩), .int .i64 g.k, .int .i64 g.w], false, .cells false⟩), (1, gRo enW g.l), (2, rtC s.t.l.length s.t.most 4), (4, gOwn enF (s.t.l ++ s.t.j)), (5, bOwn s.o)]
noncomputable def wsRb (g : GRb) : List (Gate SBk) := [⟨.exit 0, fun s => s.t = (blk g.l g.t).2 ∧ s.o = g.o ++ (blk g.l g.t).1, fun s => [(5, .slice (some ⟨5, 0, none⟩) s.o.length 1)], fun s => rlRb g s, 6⟩]
noncomputable def specRb : Sy.Spec := specOf 4 6 106 (fun g : GRb => Ok g.t ∧ wSum g.l ≤ 1000000 ∧ g.o.length ≤ 100) (fun g => slRb g ⟨0, g.t, g.o⟩) (fun g => rlRb g ⟨0, g.t, g.o⟩) wsRb
noncomputable def mRb := mOf [(19, pRb, specRb)]
theorem Rb_round (g : GRb) (s : SBk) (Inv : SBk → Prop) (m : SBk → Nat) : mev EtRb noM 60 19 (0 :: pRb) false (codeOf Try.prog 19 (0 :: pRb)) ⟨mkOv (slRb g s), 106, []⟩ none ⟨mkR (rlRb g s), 6⟩ (roundK 4 6 106 Inv m (slRb g) (rlRb g) (wsRb g) s) =
  let z8 := (Row.mk (gC enF (s.2.1 ++ s.2.2)) false (Ob.cells true)); let z3 := (cellS (gC enW g.1) (0 + Int.toNat (↑s.1 : Int) * 3 + 0)); let z7 := (cellS (gC enW g.1) (0 +
  Int.toNat (↑s.1 : Int) * 3 + 0 + 1)); let z1 := (fdI z8 (List.length s.2.1) z3 z7); let z2 := (Row.mk (List.take (List.length s.3 * 1) (List.drop 0 (bCells s.3))) true
  (Ob.cells true)); let z4 := (Row.mk (List.take (ptN z2 (6 : Int) (64 : Int) z1 * 1) (List.drop 0 (ptC z2 (6 : Int) (64 : Int) z1))) true (Ob.cells true)); let z5 :=
  (Row.mk (List.take (ptN z2 (4 : Int) (16 : Int) z1 * 1) (List.drop 0 (ptC z2 (4 : Int) (16 : Int) z1))) true (Ob.cells true)); let z6 := (Row.mk (List.take (ptN z2 (4 :
  Int) (0 : Int) z1 * 1) (List.drop 0 (ptC z2 (4 : Int) (0 : Int) z1))) true (Ob.cells true)); let z9 := ((0 + List.length s.3 * 1 <= List.length (bCells s.3) /\ Plain
  (List.take (List.length s.3 * 1) (List.drop 0 (bCells s.3)))) /\ (True /\ (True /\ (True /\ True)))); let z10 := ((0 + ptN z2 (6 : Int) (64 : Int) z1 * 1 <= List.length
  (ptC z2 (6 : Int) (64 : Int) z1) /\ Plain (List.take (ptN z2 (6 : Int) (64 : Int) z1 * 1) (List.drop 0 (ptC z2 (6 : Int) (64 : Int) z1)))) /\ (True /\ True)); let z11 :=
  ((0 + ptN z2 (4 : Int) (16 : Int) z1 * 1 <= List.length (ptC z2 (4 : Int) (16 : Int) z1) /\ Plain (List.take (ptN z2 (4 : Int) (16 : Int) z1 * 1) (List.drop 0 (ptC z2 (4 :
  Int) (16 : Int) z1)))) /\ (True /\ True)); let z12 := ((0 + ptN z2 (4 : Int) (0 : Int) z1 * 1 <= List.length (ptC z2 (4 : Int) (0 : Int) z1) /\ Plain (List.take (ptN z2 (4
  : Int) (0 : Int) z1 * 1) (List.drop 0 (ptC z2 (4 : Int) (0 : Int) z1)))) /\ (True /\ True)); let z13 := (Eq (α := List Value) (gC enW g.1) (gC enW g.1)); let z14 :=
  (Row.mk (List.take (rpN z4 z3 * 1) (List.drop 0 (rpC z4 z3))) true (Ob.cells true)); let z15 := (Row.mk (List.take (rpN z5 z3 * 1) (List.drop 0 (rpC z5 z3))) true
  (Ob.cells true)); let z16 := (Row.mk (List.take (rpN z6 z3 * 1) (List.drop 0 (rpC z6 z3))) true (Ob.cells true)); let z17 := (Eq (α := Option Value) ((gC enW g.1)[0 +
  Int.toNat (↑s.1 : Int) * 3 + 2]?) (some (Value.int IntKind.i64 (cellI (gC enW g.1) (0 + Int.toNat (↑s.1 : Int) * 3 + 2))))); let z18 := (((True /\ ((True /\ (True /\
  True)) /\ True)) /\ (((True /\ (True /\ True)) /\ (Plain (gC enF (s.2.1 ++ s.2.2)) /\ True)) /\ ((Plain (adC z8 (List.length s.2.1) s.2.3 z3 z7) /\ True) /\ (IsTb z8
  (List.length s.2.1) (szR z8 (List.length s.2.1)) /\ (fbZ z3 z7 <= 100000000 /\ ((0 : Int) <= s.2.3 /\ s.2.3 <= (100000000 : Int)))))))); let z19 := ((((0 + rpN z4 z3 * 1
  <= List.length (rpC z4 z3) /\ Plain (List.take (rpN z4 z3 * 1) (List.drop 0 (rpC z4 z3)))) /\ (True /\ True)) /\ ((True /\ True) /\ ((Plain (rpC z14 z7) /\ True) /\ (IsB
  z14 (rpN z4 z3) /\ (rpN z4 z3 <= 12000000 /\ List.length (L z7) <= 1048576)))))); let z20 := ((((0 + rpN z5 z3 * 1 <= List.length (rpC z5 z3) /\ Plain (List.take (rpN z5
  z3 * 1) (List.drop 0 (rpC z5 z3)))) /\ (True /\ True)) /\ ((True /\ True) /\ ((Plain (rpC z15 z7) /\ True) /\ (IsB z15 (rpN z5 z3) /\ (rpN z5 z3 <= 12000000 /\ List.length
  (L z7) <= 1048576)))))); let z21 := ((((0 + rpN z6 z3 * 1 <= List.length (rpC z6 z3) /\ Plain (List.take (rpN z6 z3 * 1) (List.drop 0 (rpC z6 z3)))) /\ (True /\ True)) /\
  ((True /\ True) /\ ((Plain (rpC z16 z7) /\ True) /\ (IsB z16 (rpN z6 z3) /\ (rpN z6 z3 <= 12000000 /\ List.length (L z7) <= 1048576)))))); let z22 := (decide ((0 : Int) <=
  (↑s.1 : Int) /\ (↑s.1 : Int) < (↑(List.length g.1) : Int))); let z23 := (Value.agg (Array.mk [Value.string z3, Value.string z7]) = Value.agg (Array.mk [Value.string z3,
  Value.string z7])); let z24 := (fdI z8 (List.length s.2.1) z3 z7 == (0 : Int)); let z25 := ((z9 /\ ((True /\ True) /\ ((Plain (ptC z2 (6 : Int) (64 : Int) z1) /\ True) /\
  (IsB z2 (List.length s.3) /\ (((0 : Int) <= (64 : Int) /\ (64 : Int) < (256 : Int)) /\ List.length s.3 <= 16776000)))))); let z26 := ((z9 /\ ((True /\ True) /\ ((Plain
  (ptC z2 (4 : Int) (16 : Int) z1) /\ True) /\ (IsB z2 (List.length s.3) /\ (((0 : Int) <= (16 : Int) /\ (16 : Int) < (256 : Int)) /\ List.length s.3 <= 16776000)))))); let
  z27 := ((z9 /\ ((True /\ True) /\ ((Plain (ptC z2 (4 : Int) (0 : Int) z1) /\ True) /\ (IsB z2 (List.length s.3) /\ (((0 : Int) <= (0 : Int) /\ (0 : Int) < (256 : Int)) /\
  List.length s.3 <= 16776000)))))); let z28 := ((z10 /\ ((True /\ True) /\ ((Plain (rpC z4 z3) /\ True) /\ (IsB z4 (ptN z2 (6 : Int) (64 : Int) z1) /\ (ptN z2 (6 : Int) (64
  : Int) z1 <= 12000000 /\ List.length (L z3) <= 1048576)))))); let z29 := ((z10 /\ ((True /\ True) /\ ((Plain (rpC z4 z7) /\ True) /\ (IsB z4 (ptN z2 (6 : Int) (64 : Int)
  z1) /\ (ptN z2 (6 : Int) (64 : Int) z1 <= 12000000 /\ List.length (L z7) <= 1048576)))))); let z30 := ((z11 /\ ((True /\ True) /\ ((Plain (rpC z5 z3) /\ True) /\ (IsB z5
  (ptN z2 (4 : Int) (16 : Int) z1) /\ (ptN z2 (4 : Int) (16 : Int) z1 <= 12000000 /\ List.length (L z3) <= 1048576)))))); let z31 := ((z11 /\ ((True /\ True) /\ ((Plain (rpC
  z5 z7) /\ True) /\ (IsB z5 (ptN z2 (4 : Int) (16 : Int) z1) /\ (ptN z2 (4 : Int) (16 : Int) z1 <= 12000000 /\ List.length (L z7) <= 1048576)))))); let z32 := ((z12 /\
  ((True /\ True) /\ ((Plain (rpC z6 z3) /\ True) /\ (IsB z6 (ptN z2 (4 : Int) (0 : Int) z1) /\ (ptN z2 (4 : Int) (0 : Int) z1 <= 12000000 /\ List.length (L z3) <=
  1048576)))))); let z33 := ((z12 /\ ((True /\ True) /\ ((Plain (rpC z6 z7) /\ True) /\ (IsB z6 (ptN z2 (4 : Int) (0 : Int) z1) /\ (ptN z2 (4 : Int) (0 : Int) z1 <= 12000000
  /\ List.length (L z7) <= 1048576)))))); let z34 := (Value.pointer (some (Addr.mk 2 0 none)) = Value.pointer (some (Addr.mk 2 0 none))); let z35 := (cellI (gC enW g.1) (0 +
  Int.toNat (↑s.1 : Int) * 3 + 2) == (1 : Int)); let z36 := (cellI (gC enW g.1) (0 + Int.toNat (↑s.1 : Int) * 3 + 2) == (3 : Int)); (br (decide ((↑s.1 : Int) < Int.ofNat
  (List.length g.1))) (br z22 ((Eq (α := Option Value) ((gC enW g.1)[0 + Int.toNat (↑s.1 : Int) * 3 + 0]?) (some (Value.string z3))) /\ ((Eq (α := Option Value) ((gC enW
  g.1)[0 + Int.toNat (↑s.1 : Int) * 3 + 0 + 1]?) (some (Value.string z7))) /\ ((((True /\ ((True /\ (True /\ True)) /\ True)) /\ (((True /\ (True /\ True)) /\ (Plain (gC enF
  (s.2.1 ++ s.2.2)) /\ True)) /\ ((Plain (gC enF (s.2.1 ++ s.2.2)) /\ True) /\ IsTg z8 (List.length s.2.1))))) /\ (z34 /\ (z23 /\ (br (fdB z8 (List.length s.2.1) z3 z7) (br
  z22 (z17 /\ (br (cellI (gC enW g.1) (0 + Int.toNat (↑s.1 : Int) * 3 + 2) != (3 : Int)) (((z9 /\ ((True /\ True) /\ ((Plain (ptC z2 (7 : Int) (128 : Int) z1) /\ True) /\
  (IsB z2 (List.length s.3) /\ (((0 : Int) <= (128 : Int) /\ (128 : Int) < (256 : Int)) /\ List.length s.3 <= 16776000)))))) /\ (∃ j : SBk, ((Inv j) /\ ((m j < m s) /\ ((0 =
  0) /\ ((0 = 0) /\ ((List.length g.1 = List.length g.1) /\ ((0 = 0) /\ ((List.length j.3 = ptN z2 (7 : Int) (128 : Int) z1) /\ (((↑j.1 : Int) = IntKind.wrap IntKind.i64
  ((↑s.1 : Int) + (1 : Int))) /\ ((0 = 0) /\ ((g.3 = g.3) /\ ((g.4 = g.4) /\ (z13 /\ ((Plain (gC enW g.1)) /\ ((0 = 0) /\ ((List.length j.2.1 = List.length s.2.1) /\ ((j.2.3
  = s.2.3) /\ ((Eq (α := List Value) (gC enF (j.2.1 ++ j.2.2)) (gC enF (s.2.1 ++ s.2.2))) /\ ((Plain (gC enF (j.2.1 ++ j.2.2))) /\ ((Eq (α := List Value) (bCells j.3) (ptC
  z2 (7 : Int) (128 : Int) z1)) /\ ((Plain (bCells j.3)) /\ True)))))))))))))))))))))) (br z22 (z17 /\ (br z35 (z25 /\ (z18 /\ (z34 /\ (z23 /\ (br z24 (z28 /\ (z19 /\ (∃ j :
  SBk, ((Inv j) /\ ((m j < m s) /\ ((0 = 0) /\ ((0 = 0) /\ ((List.length g.1 = List.length g.1) /\ ((0 = 0) /\ ((List.length j.3 = rpN z14 z7) /\ (((↑j.1 : Int) =
  IntKind.wrap IntKind.i64 ((↑s.1 : Int) + (1 : Int))) /\ ((0 = 0) /\ ((g.3 = g.3) /\ ((g.4 = g.4) /\ (z13 /\ ((Plain (gC enW g.1)) /\ ((0 = 0) /\ ((List.length j.2.1 = adN
  z8 (List.length s.2.1) s.2.3 z3 z7) /\ ((j.2.3 = s.2.3) /\ ((Eq (α := List Value) (gC enF (j.2.1 ++ j.2.2)) (adC z8 (List.length s.2.1) s.2.3 z3 z7)) /\ ((Plain (gC enF
  (j.2.1 ++ j.2.2))) /\ ((Eq (α := List Value) (bCells j.3) (rpC z14 z7)) /\ ((Plain (bCells j.3)) /\ True))))))))))))))))))))))) (z29 /\ (∃ j : SBk, ((Inv j) /\ ((m j < m
  s) /\ ((0 = 0) /\ ((0 = 0) /\ ((List.length g.1 = List.length g.1) /\ ((0 = 0) /\ ((List.length j.3 = rpN z4 z7) /\ (((↑j.1 : Int) = IntKind.wrap IntKind.i64 ((↑s.1 : Int)
  + (1 : Int))) /\ ((0 = 0) /\ ((g.3 = g.3) /\ ((g.4 = g.4) /\ (z13 /\ ((Plain (gC enW g.1)) /\ ((0 = 0) /\ ((List.length j.2.1 = adN z8 (List.length s.2.1) s.2.3 z3 z7) /\
  ((j.2.3 = s.2.3) /\ ((Eq (α := List Value) (gC enF (j.2.1 ++ j.2.2)) (adC z8 (List.length s.2.1) s.2.3 z3 z7)) /\ ((Plain (gC enF (j.2.1 ++ j.2.2))) /\ ((Eq (α := List
  Value) (bCells j.3) (rpC z4 z7)) /\ ((Plain (bCells j.3)) /\ True))))))))))))))))))))))))))) (br z36 (z26 /\ (br z24 (z30 /\ (z20 /\ (∃ j : SBk, ((Inv j) /\ ((m j < m s)
  /\ ((0 = 0) /\ ((0 = 0) /\ ((List.length g.1 = List.length g.1) /\ ((0 = 0) /\ ((List.length j.3 = rpN z15 z7) /\ (((↑j.1 : Int) = IntKind.wrap IntKind.i64 ((↑s.1 : Int) +
  (1 : Int))) /\ ((0 = 0) /\ ((g.3 = g.3) /\ ((g.4 = g.4) /\ (z13 /\ ((Plain (gC enW g.1)) /\ ((0 = 0) /\ ((List.length j.2.1 = List.length s.2.1) /\ ((j.2.3 = s.2.3) /\
  ((Eq (α := List Value) (gC enF (j.2.1 ++ j.2.2)) (gC enF (s.2.1 ++ s.2.2))) /\ ((Plain (gC enF (j.2.1 ++ j.2.2))) /\ ((Eq (α := List Value) (bCells j.3) (rpC z15 z7)) /\
  ((Plain (bCells j.3)) /\ True))))))))))))))))))))))) (z31 /\ (∃ j : SBk, ((Inv j) /\ ((m j < m s) /\ ((0 = 0) /\ ((0 = 0) /\ ((List.length g.1 = List.length g.1) /\ ((0 =
  0) /\ ((List.length j.3 = rpN z5 z7) /\ (((↑j.1 : Int) = IntKind.wrap IntKind.i64 ((↑s.1 : Int) + (1 : Int))) /\ ((0 = 0) /\ ((g.3 = g.3) /\ ((g.4 = g.4) /\ (z13 /\
  ((Plain (gC enW g.1)) /\ ((0 = 0) /\ ((List.length j.2.1 = List.length s.2.1) /\ ((j.2.3 = s.2.3) /\ ((Eq (α := List Value) (gC enF (j.2.1 ++ j.2.2)) (gC enF (s.2.1 ++
  s.2.2))) /\ ((Plain (gC enF (j.2.1 ++ j.2.2))) /\ ((Eq (α := List Value) (bCells j.3) (rpC z5 z7)) /\ ((Plain (bCells j.3)) /\ True)))))))))))))))))))))))) (z27 /\ (br z24
  (z32 /\ (z21 /\ (∃ j : SBk, ((Inv j) /\ ((m j < m s) /\ ((0 = 0) /\ ((0 = 0) /\ ((List.length g.1 = List.length g.1) /\ ((0 = 0) /\ ((List.length j.3 = rpN z16 z7) /\
  (((↑j.1 : Int) = IntKind.wrap IntKind.i64 ((↑s.1 : Int) + (1 : Int))) /\ ((0 = 0) /\ ((g.3 = g.3) /\ ((g.4 = g.4) /\ (z13 /\ ((Plain (gC enW g.1)) /\ ((0 = 0) /\
  ((List.length j.2.1 = List.length s.2.1) /\ ((j.2.3 = s.2.3) /\ ((Eq (α := List Value) (gC enF (j.2.1 ++ j.2.2)) (gC enF (s.2.1 ++ s.2.2))) /\ ((Plain (gC enF (j.2.1 ++
  j.2.2))) /\ ((Eq (α := List Value) (bCells j.3) (rpC z16 z7)) /\ ((Plain (bCells j.3)) /\ True))))))))))))))))))))))) (z33 /\ (∃ j : SBk, ((Inv j) /\ ((m j < m s) /\ ((0 =
  0) /\ ((0 = 0) /\ ((List.length g.1 = List.length g.1) /\ ((0 = 0) /\ ((List.length j.3 = rpN z6 z7) /\ (((↑j.1 : Int) = IntKind.wrap IntKind.i64 ((↑s.1 : Int) + (1 :
  Int))) /\ ((0 = 0) /\ ((g.3 = g.3) /\ ((g.4 = g.4) /\ (z13 /\ ((Plain (gC enW g.1)) /\ ((0 = 0) /\ ((List.length j.2.1 = List.length s.2.1) /\ ((j.2.3 = s.2.3) /\ ((Eq (α
  := List Value) (gC enF (j.2.1 ++ j.2.2)) (gC enF (s.2.1 ++ s.2.2))) /\ ((Plain (gC enF (j.2.1 ++ j.2.2))) /\ ((Eq (α := List Value) (bCells j.3) (rpC z6 z7)) /\ ((Plain
  (bCells j.3)) /\ True))))))))))))))))))))))))))) False))) False) (br z22 (z17 /\ (br z35 (z25 /\ (z18 /\ (z34 /\ (z23 /\ (br z24 (z28 /\ (z19 /\ (∃ j : SBk, ((Inv j) /\
  ((m j < m s) /\ ((0 = 0) /\ ((0 = 0) /\ ((List.length g.1 = List.length g.1) /\ ((0 = 0) /\ ((List.length j.3 = rpN z14 z7) /\ (((↑j.1 : Int) = IntKind.wrap IntKind.i64
  ((↑s.1 : Int) + (1 : Int))) /\ ((0 = 0) /\ ((g.3 = g.3) /\ ((g.4 = g.4) /\ (z13 /\ ((Plain (gC enW g.1)) /\ ((0 = 0) /\ ((List.length j.2.1 = adN z8 (List.length s.2.1)
  s.2.3 z3 z7) /\ ((j.2.3 = s.2.3) /\ ((Eq (α := List Value) (gC enF (j.2.1 ++ j.2.2)) (adC z8 (List.length s.2.1) s.2.3 z3 z7)) /\ ((Plain (gC enF (j.2.1 ++ j.2.2))) /\
  ((Eq (α := List Value) (bCells j.3) (rpC z14 z7)) /\ ((Plain (bCells j.3)) /\ True))))))))))))))))))))))) (z29 /\ (∃ j : SBk, ((Inv j) /\ ((m j < m s) /\ ((0 = 0) /\ ((0 =
  0) /\ ((List.length g.1 = List.length g.1) /\ ((0 = 0) /\ ((List.length j.3 = rpN z4 z7) /\ (((↑j.1 : Int) = IntKind.wrap IntKind.i64 ((↑s.1 : Int) + (1 : Int))) /\ ((0 =
  0) /\ ((g.3 = g.3) /\ ((g.4 = g.4) /\ (z13 /\ ((Plain (gC enW g.1)) /\ ((0 = 0) /\ ((List.length j.2.1 = adN z8 (List.length s.2.1) s.2.3 z3 z7) /\ ((j.2.3 = s.2.3) /\
  ((Eq (α := List Value) (gC enF (j.2.1 ++ j.2.2)) (adC z8 (List.length s.2.1) s.2.3 z3 z7)) /\ ((Plain (gC enF (j.2.1 ++ j.2.2))) /\ ((Eq (α := List Value) (bCells j.3)
  (rpC z4 z7)) /\ ((Plain (bCells j.3)) /\ True))))))))))))))))))))))))))) (br z36 (z26 /\ (br z24 (z30 /\ (z20 /\ (∃ j : SBk, ((Inv j) /\ ((m j < m s) /\ ((0 = 0) /\ ((0 =
  0) /\ ((List.length g.1 = List.length g.1) /\ ((0 = 0) /\ ((List.length j.3 = rpN z15 z7) /\ (((↑j.1 : Int) = IntKind.wrap IntKind.i64 ((↑s.1 : Int) + (1 : Int))) /\ ((0 =
  0) /\ ((g.3 = g.3) /\ ((g.4 = g.4) /\ (z13 /\ ((Plain (gC enW g.1)) /\ ((0 = 0) /\ ((List.length j.2.1 = List.length s.2.1) /\ ((j.2.3 = s.2.3) /\ ((Eq (α := List Value)
  (gC enF (j.2.1 ++ j.2.2)) (gC enF (s.2.1 ++ s.2.2))) /\ ((Plain (gC enF (j.2.1 ++ j.2.2))) /\ ((Eq (α := List Value) (bCells j.3) (rpC z15 z7)) /\ ((Plain (bCells j.3)) /\
  True))))))))))))))))))))))) (z31 /\ (∃ j : SBk, ((Inv j) /\ ((m j < m s) /\ ((0 = 0) /\ ((0 = 0) /\ ((List.length g.1 = List.length g.1) /\ ((0 = 0) /\ ((List.length j.3 =
  rpN z5 z7) /\ (((↑j.1 : Int) = IntKind.wrap IntKind.i64 ((↑s.1 : Int) + (1 : Int))) /\ ((0 = 0) /\ ((g.3 = g.3) /\ ((g.4 = g.4) /\ (z13 /\ ((Plain (gC enW g.1)) /\ ((0 =
  0) /\ ((List.length j.2.1 = List.length s.2.1) /\ ((j.2.3 = s.2.3) /\ ((Eq (α := List Value) (gC enF (j.2.1 ++ j.2.2)) (gC enF (s.2.1 ++ s.2.2))) /\ ((Plain (gC enF (j.2.1
  ++ j.2.2))) /\ ((Eq (α := List Value) (bCells j.3) (rpC z5 z7)) /\ ((Plain (bCells j.3)) /\ True)))))))))))))))))))))))) (z27 /\ (br z24 (z32 /\ (z21 /\ (∃ j : SBk, ((Inv
  j) /\ ((m j < m s) /\ ((0 = 0) /\ ((0 = 0) /\ ((List.length g.1 = List.length g.1) /\ ((0 = 0) /\ ((List.length j.3 = rpN z16 z7) /\ (((↑j.1 : Int) = IntKind.wrap
  IntKind.i64 ((↑s.1 : Int) + (1 : Int))) /\ ((0 = 0) /\ ((g.3 = g.3) /\ ((g.4 = g.4) /\ (z13 /\ ((Plain (gC enW g.1)) /\ ((0 = 0) /\ ((List.length j.2.1 = List.length
  s.2.1) /\ ((j.2.3 = s.2.3) /\ ((Eq (α := List Value) (gC enF (j.2.1 ++ j.2.2)) (gC enF (s.2.1 ++ s.2.2))) /\ ((Plain (gC enF (j.2.1 ++ j.2.2))) /\ ((Eq (α := List Value)
  (bCells j.3) (rpC z16 z7)) /\ ((Plain (bCells j.3)) /\ True))))))))))))))))))))))) (z33 /\ (∃ j : SBk, ((Inv j) /\ ((m j < m s) /\ ((0 = 0) /\ ((0 = 0) /\ ((List.length
  g.1 = List.length g.1) /\ ((0 = 0) /\ ((List.length j.3 = rpN z6 z7) /\ (((↑j.1 : Int) = IntKind.wrap IntKind.i64 ((↑s.1 : Int) + (1 : Int))) /\ ((0 = 0) /\ ((g.3 = g.3)
  /\ ((g.4 = g.4) /\ (z13 /\ ((Plain (gC enW g.1)) /\ ((0 = 0) /\ ((List.length j.2.1 = List.length s.2.1) /\ ((j.2.3 = s.2.3) /\ ((Eq (α := List Value) (gC enF (j.2.1 ++
  j.2.2)) (gC enF (s.2.1 ++ s.2.2))) /\ ((Plain (gC enF (j.2.1 ++ j.2.2))) /\ ((Eq (α := List Value) (bCells j.3) (rpC z6 z7)) /\ ((Plain (bCells j.3)) /\
  True))))))))))))))))))))))))))) False))))))) False) (∃ y : SBk, (((SBk.t y = Prod.snd (blk (GRb.l g) (GRb.t g)) /\ Eq (α := List UInt8) (y.3) (g.5 ++ (blk g.1 (GRb.t
  g)).1))) /\ ((0 = 0) /\ ((List.length y.3 = List.length s.3) /\ ((0 = 0) /\ ((g.3 = g.3) /\ ((g.4 = g.4) /\ (z13 /\ ((Plain (gC enW g.1)) /\ ((0 = 0) /\ ((List.length
  y.2.1 = List.length s.2.1) /\ ((y.2.3 = s.2.3) /\ ((Eq (α := List Value) (gC enF (y.2.1 ++ y.2.2)) (gC enF (s.2.1 ++ s.2.2))) /\ ((Plain (gC enF (y.2.1 ++ y.2.2))) /\ ((Eq
  (α := List Value) (bCells y.3) (bCells s.3)) /\ ((Plain (bCells y.3)) /\ True))))))))))))))))) := by kernel_rfl
theorem Rb_vc (t u : Tb) (l : List Wr) (k w k' : Int) (o : List UInt8) : mcall EtRb mRb 60 19 [.pointer (some ⟨0, 0, none⟩), .slice (some ⟨1, 0, none⟩) l.length 3] ⟨mkR (nums 0 [⟨[.pointer (some ⟨2, 0, none⟩), .int .i64 k, .int .i64 w], false, .cells false⟩, gRo enW l, rtC t.l.length t.most 3, gOwn enF (t.l ++ t.j)]), 4⟩ (retIsM 4 (slc 5 o.length) 6 [(0, ⟨[.pointer (some ⟨2, 0, none⟩), .int .i64 k', .int .i64 w], false, .cells false⟩), (1, gRo enW l), (2, rtC u.l.length u.most 4), (4, gOwn enF (u.l ++ u.j)), (5, bOwn o)]) =
  let z3 := (ptC (Row.mk [] true (Ob.cells true)) (5 : Int) (32 : Int) k); let z1 := (List.take (ptN (Row.mk [] true (Ob.cells true)) (5 : Int) (32 : Int) k * 1) (List.drop
  0 z3)); let z2 := (IsB (Row.mk [] true (Ob.cells true)) 0 /\ (((0 : Int) <= (32 : Int) /\ (32 : Int) < (256 : Int)) /\ 0 <= 16776000)); let z4 := (ptC (Row.mk z1 true
  (Ob.cells true)) (5 : Int) (32 : Int) w); let z5 := (ptC (Row.mk [] true (Ob.cells true)) (5 : Int) (32 : Int) w); (br (decide (k ≥ (0 : Int))) ((Value.int IntKind.i64 k =
  Value.int IntKind.i64 k) /\ ((Value.int IntKind.i64 w = Value.int IntKind.i64 w) /\ (br (decide (k < w)) ((((True /\ (True /\ (True /\ (True /\ True)))) /\ ((True /\ True)
  /\ ((Plain z3 /\ True) /\ z2)))) /\ (((((0 + ptN (Row.mk [] true (Ob.cells true)) (5 : Int) (32 : Int) k * 1 <= List.length z3 /\ Plain z1) /\ (True /\ (True /\ (True /\
  True)))) /\ ((True /\ True) /\ ((Plain z4 /\ True) /\ (IsB (Row.mk z1 true (Ob.cells true)) (ptN (Row.mk [] true (Ob.cells true)) (5 : Int) (32 : Int) k) /\ (((0 : Int) <=
  (32 : Int) /\ (32 : Int) < (256 : Int)) /\ ptN (Row.mk [] true (Ob.cells true)) (5 : Int) (32 : Int) k <= 16776000)))))) /\ (∃ g : GRb, ((Ok (GRb.t g) /\ wSum g.1 <=
  1000000 /\ List.length g.5 <= 100) /\ ((0 = 0) /\ ((0 = 0) /\ ((List.length g.1 = List.length l) /\ ((0 = 0) /\ ((List.length g.5 = ptN (Row.mk z1 true (Ob.cells true)) (5
  : Int) (32 : Int) w) /\ (((↑0 : Int) = (0 : Int)) /\ ((0 = 0) /\ ((g.3 = (-1 : Int)) /\ ((g.4 = w) /\ ((Eq (α := List Value) (gC enW g.1) (gC enW l)) /\ ((Plain (gC enW
  g.1)) /\ ((0 = 0) /\ ((List.length g.2.1 = List.length t.1) /\ ((g.2.3 = t.3) /\ ((Eq (α := List Value) (gC enF (g.2.1 ++ g.2.2)) (gC enF (t.1 ++ t.2))) /\ ((Plain (gC enF
  (g.2.1 ++ g.2.2))) /\ ((Eq (α := List Value) (bCells g.5) z4) /\ ((Plain (bCells g.5)) /\ (∀ (y : SBk), ((SBk.t y = Prod.snd (blk (GRb.l g) (GRb.t g)) /\ y.3 = g.5 ++ (blk
  g.1 (GRb.t g)).1) → ((0 = 0) /\ ((List.length o = List.length y.3) /\ ((0 = 0) /\ ((k' = g.3) /\ ((w = g.4) /\ ((Eq (α := List Value) (gC enW l) (gC enW g.1)) /\ ((Plain
  (gC enW l)) /\ ((0 = 0) /\ ((List.length u.1 = List.length y.2.1) /\ ((u.3 = y.2.3) /\ ((Eq (α := List Value) (gC enF (u.1 ++ u.2)) (gC enF (y.2.1 ++ y.2.2))) /\ ((Plain
  (gC enF (u.1 ++ u.2))) /\ ((Eq (α := List Value) (bCells o) (bCells y.3)) /\ ((Plain (bCells o)) /\ True)))))))))))))))))))))))))))))))))))))) ((((True /\ (True /\ (True
  /\ (True /\ True)))) /\ ((True /\ True) /\ ((Plain z5 /\ True) /\ z2)))) /\ (∃ g : GRb, ((Ok (GRb.t g) /\ wSum g.1 <= 1000000 /\ List.length g.5 <= 100) /\ ((0 = 0) /\ ((0
  = 0) /\ ((List.length g.1 = List.length l) /\ ((0 = 0) /\ ((List.length g.5 = ptN (Row.mk [] true (Ob.cells true)) (5 : Int) (32 : Int) w) /\ (((↑0 : Int) = (0 : Int)) /\
  ((0 = 0) /\ ((g.3 = (-1 : Int)) /\ ((g.4 = w) /\ ((Eq (α := List Value) (gC enW g.1) (gC enW l)) /\ ((Plain (gC enW g.1)) /\ ((0 = 0) /\ ((List.length g.2.1 = List.length
  t.1) /\ ((g.2.3 = t.3) /\ ((Eq (α := List Value) (gC enF (g.2.1 ++ g.2.2)) (gC enF (t.1 ++ t.2))) /\ ((Plain (gC enF (g.2.1 ++ g.2.2))) /\ ((Eq (α := List Value) (bCells
  g.5) z5) /\ ((Plain (bCells g.5)) /\ (∀ (y : SBk), ((SBk.t y = Prod.snd (blk (GRb.l g) (GRb.t g)) /\ y.3 = g.5 ++ (blk g.1 (GRb.t g)).1) → ((0 = 0) /\ ((List.length o =
  List.length y.3) /\ ((0 = 0) /\ ((k' = g.3) /\ ((w = g.4) /\ ((Eq (α := List Value) (gC enW l) (gC enW g.1)) /\ ((Plain (gC enW l)) /\ ((0 = 0) /\ ((List.length u.1 =
  List.length y.2.1) /\ ((u.3 = y.2.3) /\ ((Eq (α := List Value) (gC enF (u.1 ++ u.2)) (gC enF (y.2.1 ++ y.2.2))) /\ ((Plain (gC enF (u.1 ++ u.2))) /\ ((Eq (α := List Value)
  (bCells o) (bCells y.3)) /\ ((Plain (bCells o)) /\ True)))))))))))))))))))))))))))))))))))))))) (∃ g : GRb, ((Ok (GRb.t g) /\ wSum g.1 <= 1000000 /\ List.length g.5 <=
  100) /\ ((0 = 0) /\ ((0 = 0) /\ ((List.length g.1 = List.length l) /\ ((List.length g.5 = 0) /\ (((↑0 : Int) = (0 : Int)) /\ ((0 = 0) /\ ((g.3 = k) /\ ((g.4 = w) /\ ((Eq
  (α := List Value) (gC enW g.1) (gC enW l)) /\ ((Plain (gC enW g.1)) /\ ((0 = 0) /\ ((List.length g.2.1 = List.length t.1) /\ ((g.2.3 = t.3) /\ ((Eq (α := List Value) (gC
  enF (g.2.1 ++ g.2.2)) (gC enF (t.1 ++ t.2))) /\ ((Plain (gC enF (g.2.1 ++ g.2.2))) /\ ((Eq (α := List Value) (bCells g.5) ([])) /\ (∀ (y : SBk), ((SBk.t y = Prod.snd (blk
  (GRb.l g) (GRb.t g)) /\ y.3 = g.5 ++ (blk g.1 (GRb.t g)).1) → ((0 = 0) /\ ((List.length o = List.length y.3) /\ ((0 = 0) /\ ((k' = g.3) /\ ((w = g.4) /\ ((Eq (α := List
  Value) (gC enW l) (gC enW g.1)) /\ ((Plain (gC enW l)) /\ ((0 = 0) /\ ((List.length u.1 = List.length y.2.1) /\ ((u.3 = y.2.3) /\ ((Eq (α := List Value) (gC enF (u.1 ++
  u.2)) (gC enF (y.2.1 ++ y.2.2))) /\ ((Plain (gC enF (u.1 ++ u.2))) /\ ((Eq (α := List Value) (bCells o) (bCells y.3)) /\ ((Plain (bCells o)) /\
  True))))))))))))))))))))))))))))))))))) := by kernel_rfl
theorem eRpu_ok : EntOk Try.prog eRpu := entC_ok (by
  intro a rows p v news h hp
  split at h <;> simp only [Option.some.injEq, Prod.mk.injEq, reduceCtorEq] at h
  obtain ⟨rfl, rfl, rfl⟩ := h
  obtain ⟨⟨x, rfl, rfl⟩, hl, hs⟩ := hp
  rename_i s
  rw [z_rpN, z_rpC]
  simp only [dB_ro]
  exact Rp_con x (L s) (by omega) hs)
theorem tRb_ok : ∀ x ∈ tRb, EntOk Try.prog x := all_cons eRPt_ok (all_cons eRpu_ok (all_cons eFndR_ok (all_cons eAddR_ok (all_nil))))
theorem Rb_piece : PieceOk EtRb 4 (19, pRb, specRb) := by
  refine piece_loop tk.mixed (calls_envT tRb_ok) (lok_envT _ _) lm_none (n := 60) (by kernel_rfl) (fun g : GRb => (⟨0, g.t, g.o⟩ : SBk)) (fun g s => s.i ≤ g.l.length ∧ Ok s.t ∧ s.o.length + wSum (g.l.drop s.i) ≤ g.o.length + wSum g.l ∧ (blk (g.l.drop s.i) s.t).2 = (blk g.l g.t).2 ∧ s.o ++ (blk (g.l.drop s.i) s.t).1 = g.o ++ (blk g.l g.t).1) (fun g s => g.l.length - s.i) (sl := slRb) (rl := rlRb) (fun g hg => ⟨Nat.zero_le _, hg.1, by simp, by simp, by simp⟩) (fun g s hg hi => ?_)
  refine (Rb_round g s _ _).mpr ?_
  obtain ⟨i, ⟨tl, tj, tm⟩, o⟩ := s
  obtain ⟨h1, h2, h3, h4, h5⟩ := hi
  obtain ⟨g1, g2, g3⟩ := hg
  simp only at h1 h2 h3 h4 h5
  simp only [ofNat_eq, toNat_cast, Nat.zero_add, Nat.add_zero, Nat.mul_one, List.drop_zero, bCells_len, bCells_drop, bCells_take, bCells_app, bCells_one, bCells_plain, List.length_replicate, List.length_append, List.length_take, List.length_drop, List.take_length, and_true, true_and, and_self, decide_true, List.length_nil, List.length_cons, Nat.sub_zero, dB_mk, dB_ro, List.take_zero, wPl, fPl]
  refine br_if (fun h => br_dec (by omega) ?_) (fun h => ?_)
  · have hi : i < g.l.length := by omega
    obtain ⟨c0, c1, c2, d0, d1, d2⟩ := wGet g.l i hi
    have w1 : IntKind.i64.wrap ((i : Int) + 1) = ((i + 1 : Nat) : Int) := by
      have := ok_wlen g.l
      rw [wr64_id (by unfold I64; omega)]; omega
    have hs := wSum_drop g.l i hi
    have hle := wSum_le g.l i
    have fb : fbN g.l[i].f = g.l[i].f.n.length + g.l[i].f.v.length + 32 := rfl
    obtain ⟨q, hq, hq2⟩ := fnd_rng tl g.l[i].f
    obtain ⟨o1, o2, o3⟩ := h2
    simp only at o1 o2 o3
    have hl := ok_len tl
    have hq3 : q ≤ 2147483647 := by omega
    have pq : ∀ (b : List UInt8) (k : Nat) (m : UInt8), 1 ≤ k → k ≤ 8 → putOut b (k : Nat) m (q : Int) = b ++ putB m k q := fun b k m _ _ => by unfold putOut; rw [if_pos (by omega), Int.toNat_natCast, Int.toNat_natCast]
    have p1 := fun b => pq b 7 128 (by omega) (by omega)
    have p2 := fun b => pq b 6 64 (by omega) (by omega)
    have p3 := fun b => pq b 4 16 (by omega) (by omega)
    have p4 := fun b => pq b 4 0 (by omega) (by omega)
    rw [show ((7 : Nat) : Int) = 7 from rfl] at p1
    rw [show ((6 : Nat) : Int) = 6 from rfl] at p2
    rw [show ((4 : Nat) : Int) = 4 from rfl] at p3 p4
    have k1 := putB_le 128 7 q hq3
    have k2 := putB_le 64 6 q hq3
    have k3 := putB_le 16 4 q hq3
    have k4 := putB_le 0 4 q hq3
    have u1 : u8i 128 = 128 := by decide
    have u2 : u8i 64 = 64 := by decide
    have u3 : u8i 16 = 16 := by decide
    have u4 : u8i 0 = 0 := by decide
    have it := isTg_mk tl tj (by omega)
    have ibt := isTb_mk ⟨tl, tj, tm⟩ ⟨o1, o2, o3⟩
    have sz := sz_mk tl tj false (.cells true) tl.length (Nat.le_refl _)
    rw [List.take_length] at sz
    have hf : fbZ (bs g.l[i].f.n) (bs g.l[i].f.v) ≤ 100000000 := by rw [z_fbZ]; unfold fbN; rw [L_bs, L_bs]; simp only; omega
    have dI : fdI ⟨gC enF (tl ++ tj), false, .cells true⟩ tl.length (bs g.l[i].f.n) (bs g.l[i].f.v) = (q : Int) := (fd_mk _ _ _ _ _ _).1.trans hq
    have dB' : fdB ⟨gC enF (tl ++ tj), false, .cells true⟩ tl.length (bs g.l[i].f.n) (bs g.l[i].f.v) = (fndF tl g.l[i].f).2 := (fd_mk _ _ _ _ _ _).2
    have tn := txL_le g.l[i].f.n (by omega)
    have tv := txL_le g.l[i].f.v (by omega)
    obtain ⟨aN, aS, aC⟩ := ad_mk tl tj tm g.l[i].f.n g.l[i].f.v
    have ed : ∀ (b : List UInt8) (x : Bool) (y : Ob), dB ⟨bCells b, x, y⟩ = b := fun b x y => dB_mk _ _ _
    have ib : ∀ b : List UInt8, IsB ⟨bCells b, true, .cells true⟩ b.length := fun b => isB_mk _ _ rfl
    simp only [d0, d1, d2, z_ptN, z_ptC, z_rpN, z_rpC, L_bs, dI, dB', sz, ofNat_eq, toNat_cast, Nat.zero_add, Nat.add_zero, Nat.mul_one, List.drop_zero, bCells_len, bCells_drop, bCells_take, bCells_app, bCells_one, bCells_plain, List.length_replicate, List.length_append, List.length_take, List.length_drop, List.take_length, and_true, true_and, and_self, decide_true, List.length_nil, List.length_cons, Nat.sub_zero, dB_mk, dB_ro, List.take_zero, u1, u2, u3, u4, ed, p1, p2, p3, p4, aN, aC, it, ibt, true_and]
    have hU := ok_row ⟨tl, tj, tm⟩ g.l[i].f g.l[i].h ⟨o1, o2, o3⟩
    have hm := rowU_m ⟨tl, tj, tm⟩ g.l[i].f g.l[i].h
    have hr := rowL_len ⟨tl, tj, tm⟩ g.l[i].f g.l[i].h ⟨o1, o2, o3⟩ (by omega) (by omega)
    rw [List.drop_eq_getElem_cons hi] at h4 h5
    simp only [blk] at h4 h5
    have r1 : rowL ⟨tl, tj, tm⟩ g.l[i].f g.l[i].h = if (fndF tl g.l[i].f).2 = true ∧ g.l[i].h ≠ 3 then putB 128 7 q else hdL g.l[i].h q ++ (if q = 0 then txL g.l[i].f.n else []) ++ txL g.l[i].f.v := by
      unfold rowL; rw [hq]; simp
    have r2 : rowU ⟨tl, tj, tm⟩ g.l[i].f g.l[i].h = if (fndF tl g.l[i].f).2 = true ∧ g.l[i].h ≠ 3 then ⟨tl, tj, tm⟩ else if g.l[i].h = 1 then addT ⟨tl, tj, tm⟩ g.l[i].f else ⟨tl, tj, tm⟩ := rfl
    have fin : ∀ (r : List UInt8) (u : Tb), rowL ⟨tl, tj, tm⟩ g.l[i].f g.l[i].h = r → rowU ⟨tl, tj, tm⟩ g.l[i].f g.l[i].h = u → ∃ j : SBk, (j.i ≤ g.l.length ∧ Ok j.t ∧ j.o.length + wSum (List.drop j.i g.l) ≤ g.o.length + wSum g.l ∧ (blk (List.drop j.i g.l) j.t).snd = (blk g.l g.t).snd ∧ j.o ++ (blk (List.drop j.i g.l) j.t).fst = g.o ++ (blk g.l g.t).fst) ∧ g.l.length - j.i < g.l.length - i ∧ j.o.length = (o ++ r).length ∧ (↑j.i : Int) = IntKind.i64.wrap (↑i + 1) ∧ j.t.l.length = u.l.length ∧ j.t.most = tm ∧ gC enF (j.t.l ++ j.t.j) = gC enF (u.l ++ u.j) ∧ bCells j.o = bCells (o ++ r) := by
      intro r u e1 e2
      rw [e1, e2] at h5
      rw [e2] at h4 hU hm
      rw [e1] at hr
      exact ⟨⟨i + 1, u, o ++ r⟩, ⟨by simp only; omega, hU, by simp only [List.length_append]; omega, h4, by simp only [List.append_assoc]; exact h5⟩, by simp only; omega, rfl, w1.symm, rfl, hm, rfl, rfl⟩
    clear h4 h5
    have eta : (⟨g.l[i].f.n, g.l[i].f.v⟩ : Fl) = g.l[i].f := rfl
    simp only [Nat.min_self, ← List.length_append, List.take_length, List.append_assoc, ib, true_and, and_true, fPl, Nat.le_refl, eta]
    simp only [List.append_assoc] at r1
    have no : ∀ k : Nat, (o.length + k ≤ 1001200 → True) := fun _ _ => trivial
    have lo : o.length ≤ 1000100 := by omega
    have l6 : ∀ P : List UInt8, P.length ≤ 6 → (o ++ P).length ≤ 12000000 := fun P h => by rw [List.length_append]; omega
    have l7 : ∀ P : List UInt8, P.length ≤ 6 → (o ++ (P ++ txL g.l[i].f.n)).length ≤ 12000000 := fun P h => by rw [List.length_append, List.length_append]; omega
    have ln : g.l[i].f.n.length ≤ 1048576 := by omega
    have lv : g.l[i].f.v.length ≤ 1048576 := by omega
    have rest : ¬ ((fndF tl g.l[i].f).2 = true ∧ g.l[i].h ≠ 3) → ∀ P, hdL g.l[i].h q = P → P.length ≤ 6 → rowL ⟨tl, tj, tm⟩ g.l[i].f g.l[i].h = P ++ ((if q = 0 then txL g.l[i].f.n else []) ++ txL g.l[i].f.v) := fun hc P hP _ => by rw [r1, if_neg hc, hP]
    refine ⟨c0, c1, br_intro (fun hw => br_dec (by omega) ⟨c2, br_intro (fun hn => ⟨⟨by omega, by omega⟩, fin _ _ (by rw [r1, if_pos ⟨hw, by simpa using hn⟩]) (by rw [r2, if_pos ⟨hw, by simpa using hn⟩])⟩) (fun hn => ?_)⟩) (fun hw => ?_)⟩
    all_goals
      have hc : ¬ ((fndF tl g.l[i].f).2 = true ∧ g.l[i].h ≠ 3) := by
        rintro ⟨x, y⟩; simp_all
      have e2 : rowU ⟨tl, tj, tm⟩ g.l[i].f g.l[i].h = if g.l[i].h = 1 then addT ⟨tl, tj, tm⟩ g.l[i].f else ⟨tl, tj, tm⟩ := by rw [r2, if_neg hc]
      have q0 : ((q : Int) == 0) = true → q = 0 := fun h => by have := eq_of_beq h; omega
      have q1 : ((q : Int) == 0) = false → q ≠ 0 := fun h e => by rw [e] at h; simp at h
      refine br_dec (by omega) ⟨c2, br_intro (fun h1 => ?_) (fun h1 => br_intro (fun h2 => ?_) (fun h2 => ?_))⟩
      · have h1 : g.l[i].h = 1 := eq_of_beq h1
        rw [if_pos h1] at e2
        have e1 := rest hc (putB 64 6 q) (if_pos h1) k2
        exact ⟨⟨by omega, by omega⟩, ⟨hf, by omega, by omega⟩, br_intro (fun hz => ⟨⟨l6 _ k2, ln⟩, ⟨l7 _ k2, lv⟩, fin _ _ (by rw [e1, if_pos (q0 hz)]) e2⟩) (fun hz => ⟨⟨l6 _ k2, lv⟩, fin _ _ (by rw [e1, if_neg (q1 hz), List.nil_append]) e2⟩)⟩
      · have h1 : g.l[i].h ≠ 1 := by simpa using h1
        have h2 : g.l[i].h = 3 := eq_of_beq h2
        rw [if_neg h1] at e2
        have e1 := rest hc (putB 16 4 q) ((if_neg h1).trans (if_pos h2)) k3
        exact ⟨⟨by omega, by omega⟩, br_intro (fun hz => ⟨⟨l6 _ k3, ln⟩, ⟨l7 _ k3, lv⟩, fin _ _ (by rw [e1, if_pos (q0 hz)]) e2⟩) (fun hz => ⟨⟨l6 _ k3, lv⟩, fin _ _ (by rw [e1, if_neg (q1 hz), List.nil_append]) e2⟩)⟩
      · have h1 : g.l[i].h ≠ 1 := by simpa using h1
        have h2 : g.l[i].h ≠ 3 := by simpa using h2
        rw [if_neg h1] at e2
        have e1 := rest hc (putB 0 4 q) ((if_neg h1).trans (if_neg h2)) k4
        exact ⟨⟨by omega, by omega⟩, br_intro (fun hz => ⟨⟨l6 _ k4, ln⟩, ⟨l7 _ k4, lv⟩, fin _ _ (by rw [e1, if_pos (q0 hz)]) e2⟩) (fun hz => ⟨⟨l6 _ k4, lv⟩, fin _ _ (by rw [e1, if_neg (q1 hz), List.nil_append]) e2⟩)⟩
  · have : i = g.l.length := by omega
    subst this
    rw [List.drop_length] at h4 h5
    simp only [blk, List.append_nil] at h4 h5
    exact ⟨⟨g.l.length, ⟨tl, tj, tm⟩, o⟩, ⟨h4, h5⟩, rfl, rfl, rfl, rfl, rfl⟩
theorem rk_ex (f : Int → Int) : ∃ g, g = f := ⟨f, rfl⟩
theorem Rb_con (t : Tb) (l : List Wr) (k w : Int) (ok : Ok t) (hl : wSum l ≤ 1000000) (hk : k ≤ 65536) (hw : 0 ≤ w) (hw2 : w ≤ 65536) : ConM Try.prog 19 [.pointer (some ⟨0, 0, none⟩), .slice (some ⟨1, 0, none⟩) l.length 3] [⟨[.pointer (some ⟨2, 0, none⟩), .int .i64 k, .int .i64 w], false, .cells false⟩, gRo enW l, rtC t.l.length t.most 3, gOwn enF (t.l ++ t.j)] (slc 5 (szs w (decide (0 ≤ k)) k ++ (blk l t).1).length) 6 [(0, ⟨[.pointer (some ⟨2, 0, none⟩), .int .i64 (if 0 ≤ k then -1 else k), .int .i64 w], false, .cells false⟩), (1, gRo enW l), (2, rtC (blk l t).2.l.length (blk l t).2.most 4), (4, gOwn enF ((blk l t).2.l ++ (blk l t).2.j)), (5, bOwn (szs w (decide (0 ≤ k)) k ++ (blk l t).1))] := by
  refine conM_vc (E := EtRb) tk.mixed (calls_envT tRb_ok) (lok_envT _ _) (M := mRb) (lm_one Rb_piece) (Rb_vc t _ l k w _ _) ?_
  obtain ⟨o1, o2, o3⟩ := ok
  have q2 : ∀ b : List UInt8, putOut b 5 32 w = b ++ putB 32 5 w.toNat := fun b => by
    unfold putOut; rw [if_pos (by omega)]; rfl
  have q3 : 0 ≤ k → ∀ b : List UInt8, putOut b 5 32 k = b ++ putB 32 5 k.toNat := fun h b => by
    unfold putOut; rw [if_pos (by omega)]; rfl
  have g1 := putB_le 32 5 k.toNat (by omega)
  have g2 := putB_le 32 5 w.toNat (by omega)
  have u1 : u8i 32 = 32 := by decide
  have e4 : dB ⟨[], true, .cells true⟩ = [] := rfl
  have ib : IsB ⟨[], true, .cells true⟩ 0 := ⟨[], rfl, rfl⟩
  have ed : ∀ (b : List UInt8) (x : Bool) (y : Ob), dB ⟨bCells b, x, y⟩ = b := fun b x y => dB_mk _ _ _
  have ib2 : ∀ b : List UInt8, IsB ⟨bCells b, true, .cells true⟩ b.length := fun b => isB_mk _ _ rfl
  simp only [ofNat_eq, toNat_cast, Nat.zero_add, Nat.add_zero, Nat.mul_one, List.drop_zero, bCells_len, bCells_drop, bCells_take, bCells_app, bCells_one, bCells_plain, List.length_replicate, List.length_append, List.length_take, List.length_drop, List.take_length, and_true, true_and, and_self, decide_true, List.length_nil, List.length_cons, Nat.sub_zero, dB_mk, dB_ro, List.take_zero, wPl, fPl, z_ptN, z_ptC, e4, u1, ed, q2, ib]
  refine br_if (fun h => ?_) (fun h => ?_)
  · have s1 : szs w (decide (0 ≤ k)) k = (if w > k then putB 32 5 k.toNat else []) ++ putB 32 5 w.toNat := by unfold szs; rw [if_pos (by simpa using h)]
    rw [s1, if_pos (show 0 ≤ k by omega)]
    simp only [q3 h, ofNat_eq, toNat_cast, Nat.zero_add, Nat.add_zero, Nat.mul_one, List.drop_zero, bCells_len, bCells_drop, bCells_take, bCells_app, bCells_one, bCells_plain, List.length_replicate, List.length_append, List.length_take, List.length_drop, List.take_length, and_true, true_and, and_self, decide_true, List.length_nil, List.length_cons, Nat.sub_zero, dB_mk, dB_ro, List.take_zero, Nat.le_refl, ib2, List.nil_append, List.append_assoc]
    refine br_if (fun h2 => ⟨by omega, by omega, ?_⟩) (fun h2 => ⟨by omega, ?_⟩)
    · rw [if_pos (show w > k by omega)]
      exact ⟨⟨l, t, -1, w, putB 32 5 k.toNat ++ putB 32 5 w.toNat⟩, ⟨⟨o1, o2, o3⟩, hl, by simp only [List.length_append]; omega⟩, rfl, by simp only [List.length_append], rfl, rfl, rfl, rfl, rfl, rfl, rfl, fun y hy => ⟨by rw [hy.2]; simp only [List.length_append], rfl, rfl, rfl, by rw [hy.1], by rw [hy.1], by rw [hy.1], by rw [hy.2, List.append_assoc]⟩⟩
    · rw [if_neg (show ¬ w > k by omega)]
      exact ⟨⟨l, t, -1, w, putB 32 5 w.toNat⟩, ⟨⟨o1, o2, o3⟩, hl, by simp only; omega⟩, rfl, rfl, rfl, rfl, rfl, rfl, rfl, rfl, rfl, fun y hy => ⟨by rw [hy.2]; simp only [List.length_append, List.length_nil, Nat.zero_add], rfl, rfl, rfl, by rw [hy.1], by rw [hy.1], by rw [hy.1], by rw [hy.2, List.nil_append]⟩⟩
  · have s0 : szs w (decide (0 ≤ k)) k = [] := by unfold szs; rw [if_neg (by simpa using h)]
    rw [s0, if_neg h]
    exact ⟨⟨l, t, k, w, []⟩, ⟨⟨o1, o2, o3⟩, hl, by simp⟩, rfl, rfl, rfl, rfl, rfl, rfl, rfl, rfl, rfl, fun y hy => ⟨by rw [hy.2]; simp, rfl, rfl, rfl, by rw [hy.1], by rw [hy.1], by rw [hy.1], by rw [hy.2]⟩⟩
noncomputable def rbK : Int → Int := Classical.choose (rk_ex fun k => if 0 ≤ k then -1 else k)
theorem z_rbK : rbK = fun k => if 0 ≤ k then -1 else k := Classical.choose_spec (rk_ex _)
def NowW (k w m : Int) : Prop := k < 0 ∨ w = m
noncomputable def eRBk : EntM := (19, fun a r => match a, r with
  | [.pointer (some ⟨0, 0, none⟩), .slice (some ⟨1, 0, none⟩) nl 3], [⟨[.pointer (some ⟨2, 0, none⟩), .int .i64 k, .int .i64 w], false, .cells false⟩, r1, ⟨[.slice (some ⟨3, 0, none⟩) n 2, .int .i64 m], false, .cells false⟩, r3] =>
    some (IsW r1 nl ∧ IsTk r3 n (szR r3 n) m ∧ k ≤ 65536 ∧ (0 ≤ w ∧ w ≤ 65536) ∧ NowW k w m, .slice (some ⟨5, 0, none⟩) (bkN r1 r3 n m (decide (0 ≤ k)) k) 1, 6, [(0, ⟨[.pointer (some ⟨2, 0, none⟩), .int .i64 (rbK k), .int .i64 w], false, .cells false⟩), (1, r1), (2, ⟨[.slice (some ⟨4, 0, none⟩) (buN r1 r3 n m (decide (0 ≤ k)) k) 2, .int .i64 m], false, .cells false⟩), (4, ⟨buC r1 r3 n m (decide (0 ≤ k)) k, false, .cells true⟩), (5, ⟨bkB r1 r3 n m (decide (0 ≤ k)) k, false, .cells true⟩)])
  | _, _ => none)
theorem eRBk_ok : EntOk Try.prog eRBk := by
  intro a rows p v n' rl he hp
  simp only [eRBk] at he
  split at he
  · simp only [Option.some.injEq, Prod.mk.injEq] at he
    obtain ⟨rfl, rfl, rfl, rfl⟩ := he
    rename_i nl k w r1 n m r3
    obtain ⟨⟨x, rfl, rfl, hx⟩, ⟨l, j, rfl, rfl, _, ok⟩, h1, ⟨h2, h3⟩, h4⟩ := hp
    have := Rb_con ⟨l, j, m⟩ x k w ok hx h1 h2 h3
    have hs : szs w (decide (0 ≤ k)) k = szs m (decide (0 ≤ k)) k := by
      by_cases h : 0 ≤ k
      · rw [h4.resolve_left (by omega)]
      · unfold szs; rw [if_neg (by simpa using h), if_neg (by simpa using h)]
    rw [hs] at this
    simp only [blk_m] at this
    rw [z_bkN, z_bkB, z_buN, z_buC, z_rbK]
    have e1 : (gRo enW x).cells = gC enW x := rfl
    have e2 : ∀ m, rowT (gOwn enF (l ++ j)) l.length m = ⟨l, j, m⟩ := fun m => row_T l j m
    simp only [e1, decW_gC, e2]
    exact this
  · simp at he
end Go.Proofs.Ytlkinjlbaeigdaa.pk
