/- The heads of a step's line, as shell writes them. -/
import Derived.Test.YtnbfhihibgdgpaaGreatDoorSz9
import Derived.Test.YtnbfhihibgdgpaaGreatDoorRows
import Derived.Test.YtnbfhihibgdgpaaGreatDoorLslB
import Derived.Test.YtnbfhihibgdgpaaGreatDoorLsnA
set_option maxRecDepth 20000
set_option linter.unusedSimpArgs false
set_option linter.unusedVariables false
namespace Go.Proofs.YtnbfhihibgdgpaaGreatDoor.sl
open Go Go.Ev Go.Sy Go.RowKit Go.Proofs.YtnbfhihibgdgpaaGreatDoor.gl Go.Proofs.YtnbfhihibgdgpaaGreatDoor.tk Go.Proofs.YtnbfhihibgdgpaaGreatDoor.it Go.Proofs.YtnbfhihibgdgpaaGreatDoor.sn
noncomputable def eWo : EntM := entC 17 fun a r => match a, r with
  | [.string s], [] => some ((L s).length ≤ 4000, .slice (some ⟨0, 0, none⟩) (wordZ s).length 1, [bOwn (wordZ s)])
  | _, _ => none
noncomputable def tLi : List EntM := [eIt, eWo]
noncomputable abbrev EtLi : Env := envT Tryz.prog tLi
def rwL (r : Rw) : List UInt8 := [32] ++ Lib.itoa r.h ++ [61] ++ wordL r.n ++ [61] ++ wordL r.v
def rwsL (l : List Rw) : List UInt8 := l.flatMap rwL
structure GR where
  g : GS
  o : List UInt8
def itP (q : Nat) : ByteArray := bif Nat.beq q 7 then ⟨#[110, 116, 114]⟩ else ⟨#[110, 115, 116, 114]⟩
def itJ (q : Nat) : Int := bif Nat.beq q 7 then .ofNat 3 else .ofNat 4
def okRw (r : Rw) : Prop := I64 r.h ∧ r.n.length ≤ 4000 ∧ r.v.length ≤ 4000
def pRo : List Nat := [0, 1, 0, 1, 1, 1, 1, 1, 1, 1, 1, 1, 0, 1, 1, 0, 1, 1, 0, 0, 1, 0, 1, 1, 1]
def outRo (x : GR) (i : Nat) : List UInt8 := x.o ++ rwsL (x.g.l.take i)
def slRo (q : Nat) (x : GR) (i : Nat) : List (Nat × Value) := [(1, .pointer (some ⟨1, 0, none⟩)), (5, .slice (some ⟨q, 0, none⟩) (outRo x i).length 1), (19, .pointer (some ⟨3, 0, none⟩)), (63, slR 0 x.g.l.length), (64, .int .i64 (x.g.l.length : Nat)), (65, .int .i64 (i : Nat))]
noncomputable def rlRo (q : Nat) (x : GR) (i : Nat) : List (Nat × Row) := [(0, gRo enR x.g.l), (1, ⟨stpC x.g, false, .cells false⟩), (3, ⟨[.string (itP q), .int .i64 (itJ q)], false, .iter⟩), (q, bOwn (outRo x i))]
noncomputable def wsRo (q : Nat) (x : GR) : List (Gate Unit) := [⟨.exit 3, fun _ => True, fun _ => [(1, .pointer (some ⟨1, 0, none⟩)), (5, .slice (some ⟨q, 0, none⟩) (outRo x x.g.l.length).length 1), (19, .pointer (some ⟨3, 0, none⟩))], fun _ => rlRo q x x.g.l.length, q + 1⟩]
def okRo (x : GR) : Prop := x.g.l.length ≤ maxLen ∧ (∀ r ∈ x.g.l, okRw r) ∧ x.o.length + (rwsL x.g.l).length ≤ 1000000
noncomputable def specRo (q : Nat) : Sy.Spec := specOf 1 (q + 1) 94 okRo (fun x => slRo q x 0) (fun x => rlRo q x 0) (wsRo q)
noncomputable def mRo8 := mOf [(6, pRo, specRo 8)]
theorem Ro8_round (x : GR) (i : Nat) (Inv : Nat → Prop) (m : Nat → Nat) : mev EtLi noM 100 6 (0 :: pRo) false (codeOf Tryz.prog 6 (0 :: pRo)) ⟨mkOv (slRo 8 x i), 94, []⟩ none ⟨mkR (rlRo 8 x i), 9⟩ (roundK 1 9 94 Inv m (slRo 8 x) (rlRo 8 x) (wsRo 8 x) i) =
  (br (decide ((↑i : Int) < (↑(List.length x.1.5) : Int))) (br (decide ((0 : Int) <= (↑i : Int) /\ (↑i : Int) < (↑(List.length x.1.5) : Int))) ((Eq (α := Option Value) ((gC
  enR x.1.5)[0 + Int.toNat (↑i : Int) * 3]?) (some (Value.string (cellS (gC enR x.1.5) (0 + Int.toNat (↑i : Int) * 3))))) /\ ((Eq (α := Option Value) ((gC enR x.1.5)[0 +
  Int.toNat (↑i : Int) * 3 + 1]?) (some (Value.string (cellS (gC enR x.1.5) (0 + Int.toNat (↑i : Int) * 3 + 1))))) /\ ((Eq (α := Option Value) ((gC enR x.1.5)[0 + Int.toNat
  (↑i : Int) * 3 + 1 + 1]?) (some (Value.int IntKind.i64 (cellI (gC enR x.1.5) (0 + Int.toNat (↑i : Int) * 3 + 1 + 1))))) /\ ((((True /\ True) /\ (True /\ (True /\ I64
  (cellI (gC enR x.1.5) (0 + Int.toNat (↑i : Int) * 3 + 1 + 1)))))) /\ (br (decide (1 + List.length (Array.toList (ByteArray.data (itoaB (cellI (gC enR x.1.5) (0 + Int.toNat
  (↑i : Int) * 3 + 1 + 1))))) <= 9223372036854775807)) (br (decide (List.length (32 :: ([] ++ Array.toList (ByteArray.data (itoaB (cellI (gC enR x.1.5) (0 + Int.toNat (↑i :
  Int) * 3 + 1 + 1)))))) + 1 <= 9223372036854775807)) (br (allOne (Value.int IntKind.u8 (32 : Int) :: List.map (fun b ↦ Value.int IntKind.u8 (↑(UInt8.toNat b) : Int)) ([] ++
  Array.toList (ByteArray.data (itoaB (cellI (gC enR x.1.5) (0 + Int.toNat (↑i : Int) * 3 + 1 + 1)))) ++ [61]))) (br (decide (List.length (outRo x i) + List.length (32 ::
  ([] ++ Array.toList (ByteArray.data (itoaB (cellI (gC enR x.1.5) (0 + Int.toNat (↑i : Int) * 3 + 1 + 1)))) ++ [61])) <= 16777216)) (br (decide (0 + List.length (outRo x i)
  * 1 <= List.length (bCells (outRo x i)))) ((((True /\ True) /\ (True /\ ((Plain (bCells (wordZ (cellS (gC enR x.1.5) (0 + Int.toNat (↑i : Int) * 3)))) /\ True) /\
  List.length (L (cellS (gC enR x.1.5) (0 + Int.toNat (↑i : Int) * 3))) <= 4000)))) /\ (br (decide (0 + List.length (wordZ (cellS (gC enR x.1.5) (0 + Int.toNat (↑i : Int) *
  3))) * 1 <= List.length (bCells (wordZ (cellS (gC enR x.1.5) (0 + Int.toNat (↑i : Int) * 3)))))) (br (allOne (List.take (List.length (wordZ (cellS (gC enR x.1.5) (0 +
  Int.toNat (↑i : Int) * 3))) * 1) (List.drop 0 (bCells (wordZ (cellS (gC enR x.1.5) (0 + Int.toNat (↑i : Int) * 3))))))) (br (decide (List.length (outRo x i) + List.length
  (32 :: ([] ++ Array.toList (ByteArray.data (itoaB (cellI (gC enR x.1.5) (0 + Int.toNat (↑i : Int) * 3 + 1 + 1)))) ++ [61])) + List.length (wordZ (cellS (gC enR x.1.5) (0 +
  Int.toNat (↑i : Int) * 3))) <= 16777216)) (br (decide (0 < List.length (outRo x i) + List.length (32 :: ([] ++ Array.toList (ByteArray.data (itoaB (cellI (gC enR x.1.5) (0
  + Int.toNat (↑i : Int) * 3 + 1 + 1)))) ++ [61])) + List.length (wordZ (cellS (gC enR x.1.5) (0 + Int.toNat (↑i : Int) * 3))) ∨ List.length (List.take (List.length (outRo x
  i) * 1) (List.drop 0 (bCells (outRo x i))) ++ Value.int IntKind.u8 (32 : Int) :: List.map (fun b ↦ Value.int IntKind.u8 (↑(UInt8.toNat b) : Int)) ([] ++ Array.toList
  (ByteArray.data (itoaB (cellI (gC enR x.1.5) (0 + Int.toNat (↑i : Int) * 3 + 1 + 1)))) ++ [61])) = 0)) (br (decide (0 + (List.length (outRo x i) + List.length (32 :: ([]
  ++ Array.toList (ByteArray.data (itoaB (cellI (gC enR x.1.5) (0 + Int.toNat (↑i : Int) * 3 + 1 + 1)))) ++ [61]))) * 1 <= List.length (List.take (List.length (outRo x i) *
  1) (List.drop 0 (bCells (outRo x i))) ++ Value.int IntKind.u8 (32 : Int) :: List.map (fun b ↦ Value.int IntKind.u8 (↑(UInt8.toNat b) : Int)) ([] ++ Array.toList
  (ByteArray.data (itoaB (cellI (gC enR x.1.5) (0 + Int.toNat (↑i : Int) * 3 + 1 + 1)))) ++ [61])))) (br (decide (List.length (outRo x i) + List.length (32 :: ([] ++
  Array.toList (ByteArray.data (itoaB (cellI (gC enR x.1.5) (0 + Int.toNat (↑i : Int) * 3 + 1 + 1)))) ++ [61])) + List.length (wordZ (cellS (gC enR x.1.5) (0 + Int.toNat (↑i
  : Int) * 3))) + 1 <= 16777216)) (br (decide (0 + (List.length (outRo x i) + List.length (32 :: ([] ++ Array.toList (ByteArray.data (itoaB (cellI (gC enR x.1.5) (0 +
  Int.toNat (↑i : Int) * 3 + 1 + 1)))) ++ [61])) + List.length (wordZ (cellS (gC enR x.1.5) (0 + Int.toNat (↑i : Int) * 3)))) * 1 <= List.length (List.take ((List.length
  (outRo x i) + List.length (32 :: ([] ++ Array.toList (ByteArray.data (itoaB (cellI (gC enR x.1.5) (0 + Int.toNat (↑i : Int) * 3 + 1 + 1)))) ++ [61]))) * 1) (List.drop 0
  (List.take (List.length (outRo x i) * 1) (List.drop 0 (bCells (outRo x i))) ++ Value.int IntKind.u8 (32 : Int) :: List.map (fun b ↦ Value.int IntKind.u8 (↑(UInt8.toNat b)
  : Int)) ([] ++ Array.toList (ByteArray.data (itoaB (cellI (gC enR x.1.5) (0 + Int.toNat (↑i : Int) * 3 + 1 + 1)))) ++ [61]))) ++ List.take (List.length (wordZ (cellS (gC
  enR x.1.5) (0 + Int.toNat (↑i : Int) * 3))) * 1) (List.drop 0 (bCells (wordZ (cellS (gC enR x.1.5) (0 + Int.toNat (↑i : Int) * 3)))))))) ((((True /\ True) /\ (True /\
  ((Plain (bCells (wordZ (cellS (gC enR x.1.5) (0 + Int.toNat (↑i : Int) * 3 + 1)))) /\ True) /\ List.length (L (cellS (gC enR x.1.5) (0 + Int.toNat (↑i : Int) * 3 + 1))) <=
  4000)))) /\ (br (decide (0 + List.length (wordZ (cellS (gC enR x.1.5) (0 + Int.toNat (↑i : Int) * 3 + 1))) * 1 <= List.length (bCells (wordZ (cellS (gC enR x.1.5) (0 +
  Int.toNat (↑i : Int) * 3 + 1)))))) (br (allOne (List.take (List.length (wordZ (cellS (gC enR x.1.5) (0 + Int.toNat (↑i : Int) * 3 + 1))) * 1) (List.drop 0 (bCells (wordZ
  (cellS (gC enR x.1.5) (0 + Int.toNat (↑i : Int) * 3 + 1))))))) (br (decide (List.length (outRo x i) + List.length (32 :: ([] ++ Array.toList (ByteArray.data (itoaB (cellI
  (gC enR x.1.5) (0 + Int.toNat (↑i : Int) * 3 + 1 + 1)))) ++ [61])) + List.length (wordZ (cellS (gC enR x.1.5) (0 + Int.toNat (↑i : Int) * 3))) + 1 + List.length (wordZ
  (cellS (gC enR x.1.5) (0 + Int.toNat (↑i : Int) * 3 + 1))) <= 16777216)) (br (decide (0 < List.length (outRo x i) + List.length (32 :: ([] ++ Array.toList (ByteArray.data
  (itoaB (cellI (gC enR x.1.5) (0 + Int.toNat (↑i : Int) * 3 + 1 + 1)))) ++ [61])) + List.length (wordZ (cellS (gC enR x.1.5) (0 + Int.toNat (↑i : Int) * 3))) + 1 +
  List.length (wordZ (cellS (gC enR x.1.5) (0 + Int.toNat (↑i : Int) * 3 + 1))) ∨ List.length (List.take ((List.length (outRo x i) + List.length (32 :: ([] ++ Array.toList
  (ByteArray.data (itoaB (cellI (gC enR x.1.5) (0 + Int.toNat (↑i : Int) * 3 + 1 + 1)))) ++ [61])) + List.length (wordZ (cellS (gC enR x.1.5) (0 + Int.toNat (↑i : Int) *
  3)))) * 1) (List.drop 0 (List.take ((List.length (outRo x i) + List.length (32 :: ([] ++ Array.toList (ByteArray.data (itoaB (cellI (gC enR x.1.5) (0 + Int.toNat (↑i :
  Int) * 3 + 1 + 1)))) ++ [61]))) * 1) (List.drop 0 (List.take (List.length (outRo x i) * 1) (List.drop 0 (bCells (outRo x i))) ++ Value.int IntKind.u8 (32 : Int) ::
  List.map (fun b ↦ Value.int IntKind.u8 (↑(UInt8.toNat b) : Int)) ([] ++ Array.toList (ByteArray.data (itoaB (cellI (gC enR x.1.5) (0 + Int.toNat (↑i : Int) * 3 + 1 + 1))))
  ++ [61]))) ++ List.take (List.length (wordZ (cellS (gC enR x.1.5) (0 + Int.toNat (↑i : Int) * 3))) * 1) (List.drop 0 (bCells (wordZ (cellS (gC enR x.1.5) (0 + Int.toNat
  (↑i : Int) * 3))))))) ++ [Value.int IntKind.u8 (61 : Int)]) = 0)) (br (decide (0 + (List.length (outRo x i) + List.length (32 :: ([] ++ Array.toList (ByteArray.data (itoaB
  (cellI (gC enR x.1.5) (0 + Int.toNat (↑i : Int) * 3 + 1 + 1)))) ++ [61])) + List.length (wordZ (cellS (gC enR x.1.5) (0 + Int.toNat (↑i : Int) * 3))) + 1) * 1 <=
  List.length (List.take ((List.length (outRo x i) + List.length (32 :: ([] ++ Array.toList (ByteArray.data (itoaB (cellI (gC enR x.1.5) (0 + Int.toNat (↑i : Int) * 3 + 1 +
  1)))) ++ [61])) + List.length (wordZ (cellS (gC enR x.1.5) (0 + Int.toNat (↑i : Int) * 3)))) * 1) (List.drop 0 (List.take ((List.length (outRo x i) + List.length (32 ::
  ([] ++ Array.toList (ByteArray.data (itoaB (cellI (gC enR x.1.5) (0 + Int.toNat (↑i : Int) * 3 + 1 + 1)))) ++ [61]))) * 1) (List.drop 0 (List.take (List.length (outRo x i)
  * 1) (List.drop 0 (bCells (outRo x i))) ++ Value.int IntKind.u8 (32 : Int) :: List.map (fun b ↦ Value.int IntKind.u8 (↑(UInt8.toNat b) : Int)) ([] ++ Array.toList
  (ByteArray.data (itoaB (cellI (gC enR x.1.5) (0 + Int.toNat (↑i : Int) * 3 + 1 + 1)))) ++ [61]))) ++ List.take (List.length (wordZ (cellS (gC enR x.1.5) (0 + Int.toNat (↑i
  : Int) * 3))) * 1) (List.drop 0 (bCells (wordZ (cellS (gC enR x.1.5) (0 + Int.toNat (↑i : Int) * 3))))))) ++ [Value.int IntKind.u8 (61 : Int)]))) (∃ j : Nat, ((Inv j) /\
  ((m j < m i) /\ ((0 = 0) /\ ((0 = 0) /\ ((List.length (outRo x j) = List.length (outRo x i) + List.length (32 :: ([] ++ Array.toList (ByteArray.data (itoaB (cellI (gC enR
  x.1.5) (0 + Int.toNat (↑i : Int) * 3 + 1 + 1)))) ++ [61])) + List.length (wordZ (cellS (gC enR x.1.5) (0 + Int.toNat (↑i : Int) * 3))) + 1 + List.length (wordZ (cellS (gC
  enR x.1.5) (0 + Int.toNat (↑i : Int) * 3 + 1)))) /\ ((0 = 0) /\ ((0 = 0) /\ ((List.length x.1.5 = List.length x.1.5) /\ (((↑(List.length x.1.5) : Int) = (↑(List.length
  x.1.5) : Int)) /\ (((↑j : Int) = IntKind.wrap IntKind.i64 ((↑i : Int) + (1 : Int))) /\ ((Eq (α := List Value) (gC enR x.1.5) (gC enR x.1.5)) /\ ((Plain (gC enR x.1.5)) /\
  ((x.1.1 = x.1.1) /\ ((x.1.2 = x.1.2) /\ ((x.1.3 = x.1.3) /\ ((x.1.4 = x.1.4) /\ ((0 = 0) /\ ((List.length x.1.5 = List.length x.1.5) /\ ((bs x.1.6 = bs x.1.6) /\ ((x.1.7 =
  x.1.7) /\ ((itP 8 = itP 8) /\ (((4 : Int) = (4 : Int)) /\ ((Eq (α := List Value) (bCells (outRo x j)) (List.take ((List.length (outRo x i) + List.length (32 :: ([] ++
  Array.toList (ByteArray.data (itoaB (cellI (gC enR x.1.5) (0 + Int.toNat (↑i : Int) * 3 + 1 + 1)))) ++ [61])) + List.length (wordZ (cellS (gC enR x.1.5) (0 + Int.toNat (↑i
  : Int) * 3))) + 1) * 1) (List.drop 0 (List.take ((List.length (outRo x i) + List.length (32 :: ([] ++ Array.toList (ByteArray.data (itoaB (cellI (gC enR x.1.5) (0 +
  Int.toNat (↑i : Int) * 3 + 1 + 1)))) ++ [61])) + List.length (wordZ (cellS (gC enR x.1.5) (0 + Int.toNat (↑i : Int) * 3)))) * 1) (List.drop 0 (List.take ((List.length
  (outRo x i) + List.length (32 :: ([] ++ Array.toList (ByteArray.data (itoaB (cellI (gC enR x.1.5) (0 + Int.toNat (↑i : Int) * 3 + 1 + 1)))) ++ [61]))) * 1) (List.drop 0
  (List.take (List.length (outRo x i) * 1) (List.drop 0 (bCells (outRo x i))) ++ Value.int IntKind.u8 (32 : Int) :: List.map (fun b ↦ Value.int IntKind.u8 (↑(UInt8.toNat b)
  : Int)) ([] ++ Array.toList (ByteArray.data (itoaB (cellI (gC enR x.1.5) (0 + Int.toNat (↑i : Int) * 3 + 1 + 1)))) ++ [61]))) ++ List.take (List.length (wordZ (cellS (gC
  enR x.1.5) (0 + Int.toNat (↑i : Int) * 3))) * 1) (List.drop 0 (bCells (wordZ (cellS (gC enR x.1.5) (0 + Int.toNat (↑i : Int) * 3))))))) ++ [Value.int IntKind.u8 (61 :
  Int)])) ++ List.take (List.length (wordZ (cellS (gC enR x.1.5) (0 + Int.toNat (↑i : Int) * 3 + 1))) * 1) (List.drop 0 (bCells (wordZ (cellS (gC enR x.1.5) (0 + Int.toNat
  (↑i : Int) * 3 + 1))))))) /\ ((Plain (bCells (outRo x j))) /\ True))))))))))))))))))))))))) False) (∃ j : Nat, ((Inv j) /\ ((m j < m i) /\ ((0 = 0) /\ ((0 = 0) /\
  ((List.length (outRo x j) = List.length (outRo x i) + List.length (32 :: ([] ++ Array.toList (ByteArray.data (itoaB (cellI (gC enR x.1.5) (0 + Int.toNat (↑i : Int) * 3 + 1
  + 1)))) ++ [61])) + List.length (wordZ (cellS (gC enR x.1.5) (0 + Int.toNat (↑i : Int) * 3))) + 1) /\ ((0 = 0) /\ ((0 = 0) /\ ((List.length x.1.5 = List.length x.1.5) /\
  (((↑(List.length x.1.5) : Int) = (↑(List.length x.1.5) : Int)) /\ (((↑j : Int) = IntKind.wrap IntKind.i64 ((↑i : Int) + (1 : Int))) /\ ((Eq (α := List Value) (gC enR
  x.1.5) (gC enR x.1.5)) /\ ((Plain (gC enR x.1.5)) /\ ((x.1.1 = x.1.1) /\ ((x.1.2 = x.1.2) /\ ((x.1.3 = x.1.3) /\ ((x.1.4 = x.1.4) /\ ((0 = 0) /\ ((List.length x.1.5 =
  List.length x.1.5) /\ ((bs x.1.6 = bs x.1.6) /\ ((x.1.7 = x.1.7) /\ ((itP 8 = itP 8) /\ (((4 : Int) = (4 : Int)) /\ ((Eq (α := List Value) (bCells (outRo x j)) (List.take
  ((List.length (outRo x i) + List.length (32 :: ([] ++ Array.toList (ByteArray.data (itoaB (cellI (gC enR x.1.5) (0 + Int.toNat (↑i : Int) * 3 + 1 + 1)))) ++ [61])) +
  List.length (wordZ (cellS (gC enR x.1.5) (0 + Int.toNat (↑i : Int) * 3)))) * 1) (List.drop 0 (List.take ((List.length (outRo x i) + List.length (32 :: ([] ++ Array.toList
  (ByteArray.data (itoaB (cellI (gC enR x.1.5) (0 + Int.toNat (↑i : Int) * 3 + 1 + 1)))) ++ [61]))) * 1) (List.drop 0 (List.take (List.length (outRo x i) * 1) (List.drop 0
  (bCells (outRo x i))) ++ Value.int IntKind.u8 (32 : Int) :: List.map (fun b ↦ Value.int IntKind.u8 (↑(UInt8.toNat b) : Int)) ([] ++ Array.toList (ByteArray.data (itoaB
  (cellI (gC enR x.1.5) (0 + Int.toNat (↑i : Int) * 3 + 1 + 1)))) ++ [61]))) ++ List.take (List.length (wordZ (cellS (gC enR x.1.5) (0 + Int.toNat (↑i : Int) * 3))) * 1)
  (List.drop 0 (bCells (wordZ (cellS (gC enR x.1.5) (0 + Int.toNat (↑i : Int) * 3))))))) ++ [Value.int IntKind.u8 (61 : Int)])) /\ ((Plain (bCells (outRo x j))) /\
  True)))))))))))))))))))))))))) False) False) False)) False) False) False) (br (decide (List.length (outRo x i) + List.length (32 :: ([] ++ Array.toList (ByteArray.data
  (itoaB (cellI (gC enR x.1.5) (0 + Int.toNat (↑i : Int) * 3 + 1 + 1)))) ++ [61])) + 1 <= 16777216)) (br (decide (0 + (List.length (outRo x i) + List.length (32 :: ([] ++
  Array.toList (ByteArray.data (itoaB (cellI (gC enR x.1.5) (0 + Int.toNat (↑i : Int) * 3 + 1 + 1)))) ++ [61]))) * 1 <= List.length (List.take (List.length (outRo x i) * 1)
  (List.drop 0 (bCells (outRo x i))) ++ Value.int IntKind.u8 (32 : Int) :: List.map (fun b ↦ Value.int IntKind.u8 (↑(UInt8.toNat b) : Int)) ([] ++ Array.toList
  (ByteArray.data (itoaB (cellI (gC enR x.1.5) (0 + Int.toNat (↑i : Int) * 3 + 1 + 1)))) ++ [61])))) ((((True /\ True) /\ (True /\ ((Plain (bCells (wordZ (cellS (gC enR
  x.1.5) (0 + Int.toNat (↑i : Int) * 3 + 1)))) /\ True) /\ List.length (L (cellS (gC enR x.1.5) (0 + Int.toNat (↑i : Int) * 3 + 1))) <= 4000)))) /\ (br (decide (0 +
  List.length (wordZ (cellS (gC enR x.1.5) (0 + Int.toNat (↑i : Int) * 3 + 1))) * 1 <= List.length (bCells (wordZ (cellS (gC enR x.1.5) (0 + Int.toNat (↑i : Int) * 3 +
  1)))))) (br (allOne (List.take (List.length (wordZ (cellS (gC enR x.1.5) (0 + Int.toNat (↑i : Int) * 3 + 1))) * 1) (List.drop 0 (bCells (wordZ (cellS (gC enR x.1.5) (0 +
  Int.toNat (↑i : Int) * 3 + 1))))))) (br (decide (List.length (outRo x i) + List.length (32 :: ([] ++ Array.toList (ByteArray.data (itoaB (cellI (gC enR x.1.5) (0 +
  Int.toNat (↑i : Int) * 3 + 1 + 1)))) ++ [61])) + 1 + List.length (wordZ (cellS (gC enR x.1.5) (0 + Int.toNat (↑i : Int) * 3 + 1))) <= 16777216)) (br (decide (0 <
  List.length (outRo x i) + List.length (32 :: ([] ++ Array.toList (ByteArray.data (itoaB (cellI (gC enR x.1.5) (0 + Int.toNat (↑i : Int) * 3 + 1 + 1)))) ++ [61])) + 1 +
  List.length (wordZ (cellS (gC enR x.1.5) (0 + Int.toNat (↑i : Int) * 3 + 1))) ∨ List.length (List.take ((List.length (outRo x i) + List.length (32 :: ([] ++ Array.toList
  (ByteArray.data (itoaB (cellI (gC enR x.1.5) (0 + Int.toNat (↑i : Int) * 3 + 1 + 1)))) ++ [61]))) * 1) (List.drop 0 (List.take (List.length (outRo x i) * 1) (List.drop 0
  (bCells (outRo x i))) ++ Value.int IntKind.u8 (32 : Int) :: List.map (fun b ↦ Value.int IntKind.u8 (↑(UInt8.toNat b) : Int)) ([] ++ Array.toList (ByteArray.data (itoaB
  (cellI (gC enR x.1.5) (0 + Int.toNat (↑i : Int) * 3 + 1 + 1)))) ++ [61]))) ++ [Value.int IntKind.u8 (61 : Int)]) = 0)) (br (decide (0 + (List.length (outRo x i) +
  List.length (32 :: ([] ++ Array.toList (ByteArray.data (itoaB (cellI (gC enR x.1.5) (0 + Int.toNat (↑i : Int) * 3 + 1 + 1)))) ++ [61])) + 1) * 1 <= List.length (List.take
  ((List.length (outRo x i) + List.length (32 :: ([] ++ Array.toList (ByteArray.data (itoaB (cellI (gC enR x.1.5) (0 + Int.toNat (↑i : Int) * 3 + 1 + 1)))) ++ [61]))) * 1)
  (List.drop 0 (List.take (List.length (outRo x i) * 1) (List.drop 0 (bCells (outRo x i))) ++ Value.int IntKind.u8 (32 : Int) :: List.map (fun b ↦ Value.int IntKind.u8
  (↑(UInt8.toNat b) : Int)) ([] ++ Array.toList (ByteArray.data (itoaB (cellI (gC enR x.1.5) (0 + Int.toNat (↑i : Int) * 3 + 1 + 1)))) ++ [61]))) ++ [Value.int IntKind.u8
  (61 : Int)]))) (∃ j : Nat, ((Inv j) /\ ((m j < m i) /\ ((0 = 0) /\ ((0 = 0) /\ ((List.length (outRo x j) = List.length (outRo x i) + List.length (32 :: ([] ++ Array.toList
  (ByteArray.data (itoaB (cellI (gC enR x.1.5) (0 + Int.toNat (↑i : Int) * 3 + 1 + 1)))) ++ [61])) + 1 + List.length (wordZ (cellS (gC enR x.1.5) (0 + Int.toNat (↑i : Int) *
  3 + 1)))) /\ ((0 = 0) /\ ((0 = 0) /\ ((List.length x.1.5 = List.length x.1.5) /\ (((↑(List.length x.1.5) : Int) = (↑(List.length x.1.5) : Int)) /\ (((↑j : Int) =
  IntKind.wrap IntKind.i64 ((↑i : Int) + (1 : Int))) /\ ((Eq (α := List Value) (gC enR x.1.5) (gC enR x.1.5)) /\ ((Plain (gC enR x.1.5)) /\ ((x.1.1 = x.1.1) /\ ((x.1.2 =
  x.1.2) /\ ((x.1.3 = x.1.3) /\ ((x.1.4 = x.1.4) /\ ((0 = 0) /\ ((List.length x.1.5 = List.length x.1.5) /\ ((bs x.1.6 = bs x.1.6) /\ ((x.1.7 = x.1.7) /\ ((itP 8 = itP 8) /\
  (((4 : Int) = (4 : Int)) /\ ((Eq (α := List Value) (bCells (outRo x j)) (List.take ((List.length (outRo x i) + List.length (32 :: ([] ++ Array.toList (ByteArray.data
  (itoaB (cellI (gC enR x.1.5) (0 + Int.toNat (↑i : Int) * 3 + 1 + 1)))) ++ [61])) + 1) * 1) (List.drop 0 (List.take ((List.length (outRo x i) + List.length (32 :: ([] ++
  Array.toList (ByteArray.data (itoaB (cellI (gC enR x.1.5) (0 + Int.toNat (↑i : Int) * 3 + 1 + 1)))) ++ [61]))) * 1) (List.drop 0 (List.take (List.length (outRo x i) * 1)
  (List.drop 0 (bCells (outRo x i))) ++ Value.int IntKind.u8 (32 : Int) :: List.map (fun b ↦ Value.int IntKind.u8 (↑(UInt8.toNat b) : Int)) ([] ++ Array.toList
  (ByteArray.data (itoaB (cellI (gC enR x.1.5) (0 + Int.toNat (↑i : Int) * 3 + 1 + 1)))) ++ [61]))) ++ [Value.int IntKind.u8 (61 : Int)])) ++ List.take (List.length (wordZ
  (cellS (gC enR x.1.5) (0 + Int.toNat (↑i : Int) * 3 + 1))) * 1) (List.drop 0 (bCells (wordZ (cellS (gC enR x.1.5) (0 + Int.toNat (↑i : Int) * 3 + 1))))))) /\ ((Plain
  (bCells (outRo x j))) /\ True))))))))))))))))))))))))) False) (∃ j : Nat, ((Inv j) /\ ((m j < m i) /\ ((0 = 0) /\ ((0 = 0) /\ ((List.length (outRo x j) = List.length
  (outRo x i) + List.length (32 :: ([] ++ Array.toList (ByteArray.data (itoaB (cellI (gC enR x.1.5) (0 + Int.toNat (↑i : Int) * 3 + 1 + 1)))) ++ [61])) + 1) /\ ((0 = 0) /\
  ((0 = 0) /\ ((List.length x.1.5 = List.length x.1.5) /\ (((↑(List.length x.1.5) : Int) = (↑(List.length x.1.5) : Int)) /\ (((↑j : Int) = IntKind.wrap IntKind.i64 ((↑i :
  Int) + (1 : Int))) /\ ((Eq (α := List Value) (gC enR x.1.5) (gC enR x.1.5)) /\ ((Plain (gC enR x.1.5)) /\ ((x.1.1 = x.1.1) /\ ((x.1.2 = x.1.2) /\ ((x.1.3 = x.1.3) /\
  ((x.1.4 = x.1.4) /\ ((0 = 0) /\ ((List.length x.1.5 = List.length x.1.5) /\ ((bs x.1.6 = bs x.1.6) /\ ((x.1.7 = x.1.7) /\ ((itP 8 = itP 8) /\ (((4 : Int) = (4 : Int)) /\
  ((Eq (α := List Value) (bCells (outRo x j)) (List.take ((List.length (outRo x i) + List.length (32 :: ([] ++ Array.toList (ByteArray.data (itoaB (cellI (gC enR x.1.5) (0 +
  Int.toNat (↑i : Int) * 3 + 1 + 1)))) ++ [61]))) * 1) (List.drop 0 (List.take (List.length (outRo x i) * 1) (List.drop 0 (bCells (outRo x i))) ++ Value.int IntKind.u8 (32 :
  Int) :: List.map (fun b ↦ Value.int IntKind.u8 (↑(UInt8.toNat b) : Int)) ([] ++ Array.toList (ByteArray.data (itoaB (cellI (gC enR x.1.5) (0 + Int.toNat (↑i : Int) * 3 + 1
  + 1)))) ++ [61]))) ++ [Value.int IntKind.u8 (61 : Int)])) /\ ((Plain (bCells (outRo x j))) /\ True)))))))))))))))))))))))))) False) False) False)) False) False)) False)
  False) False)) False) False) False) False) False))))) False) (∃ y : Unit, ((True) /\ ((0 = 0) /\ ((0 = 0) /\ ((List.length (outRo x (List.length x.1.5)) = List.length
  (outRo x i)) /\ ((0 = 0) /\ ((Eq (α := List Value) (gC enR x.1.5) (gC enR x.1.5)) /\ ((Plain (gC enR x.1.5)) /\ ((x.1.1 = x.1.1) /\ ((x.1.2 = x.1.2) /\ ((x.1.3 = x.1.3) /\
  ((x.1.4 = x.1.4) /\ ((0 = 0) /\ ((List.length x.1.5 = List.length x.1.5) /\ ((bs x.1.6 = bs x.1.6) /\ ((x.1.7 = x.1.7) /\ ((itP 8 = itP 8) /\ (((4 : Int) = (4 : Int)) /\
  ((Eq (α := List Value) (bCells (outRo x (List.length x.1.5))) (bCells (outRo x i))) /\ ((Plain (bCells (outRo x (List.length x.1.5)))) /\ True))))))))))))))))))))) := by kernel_rfl
theorem Lit (n : Int) : (itoaB n).data.toList = Lib.itoa n := by rw [z_itoa]
theorem itoa_le (n : Int) (h : I64 n) : (Lib.itoa n).length ≤ 21 := by
  unfold I64 at h
  unfold Lib.itoa
  split
  · have := dec_20 n.natAbs (by omega)
    simp only [List.length_cons]; omega
  · have := dec_20 n.toNat (by omega)
    omega
theorem wordZ_bs (l : List UInt8) : wordZ (bs l) = wordL l := by unfold wordZ; rw [sealV_eq]; rfl
theorem eWo_arg (s : ByteArray) : bs (L s) = s := rfl
theorem eWo_ok : EntOk Tryz.prog eWo := entC_ok (by
  intro a rows p v news h hp
  split at h <;> simp only [Option.some.injEq, Prod.mk.injEq, reduceCtorEq] at h
  obtain ⟨rfl, rfl, rfl⟩ := h
  rename_i s
  rw [← eWo_arg s, wordZ_bs]
  exact Wo_con (L s) hp)
theorem tLi_ok : ∀ x ∈ tLi, EntOk Tryz.prog x := all_cons eIt_ok (all_cons eWo_ok (all_nil))
theorem tkB (n : Nat) (l : List UInt8) (h : n = l.length) : List.take n (bCells l) = bCells l := by
  rw [h, ← bCells_len l, List.take_length]
theorem bc61 : [Value.int IntKind.u8 (61 : Int)] = bCells [61] := rfl
theorem rws_take (l : List Rw) (i : Nat) (h : i < l.length) : rwsL (l.take (i + 1)) = rwsL (l.take i) ++ rwL l[i] := by
  unfold rwsL
  rw [List.take_succ_eq_append_getElem h, List.flatMap_append]; simp
theorem out_next (x : GR) (i : Nat) (h : i < x.g.l.length) : outRo x (i + 1) = outRo x i ++ (32 :: (Lib.itoa x.g.l[i].h ++ [61])) ++ wordL x.g.l[i].n ++ [61] ++ wordL x.g.l[i].v := by
  unfold outRo
  rw [rws_take _ _ h]
  unfold rwL; simp
theorem rws_le (l : List Rw) (i : Nat) : (rwsL (l.take i)).length ≤ (rwsL l).length := by
  have : rwsL l = rwsL (l.take i) ++ rwsL (l.drop i) := by unfold rwsL; rw [← List.flatMap_append, List.take_append_drop]
  rw [this, List.length_append]; omega
theorem out_le (x : GR) (i : Nat) (h : okRo x) : (outRo x i).length ≤ 1000000 := by
  have := rws_le x.g.l i
  obtain ⟨_, _, h3⟩ := h
  unfold outRo; rw [List.length_append]; omega
theorem Ro8_piece : PieceOk EtLi 1 (6, pRo, specRo 8) := by
  refine piece_loop mixed (calls_envT tLi_ok) (lok_envT _ _) lm_none (n := 100) (by kernel_rfl) (fun _ => (0 : Nat)) (fun x i => i ≤ x.g.l.length) (fun x i => x.g.l.length - i) (sl := slRo 8) (rl := rlRo 8) (fun x hg => Nat.zero_le _) (fun x i hg hi => ?_)
  refine (Ro8_round x i _ _).mpr ?_
  have hg : okRo x := hg
  obtain ⟨g1, g2, g3⟩ := id hg
  unfold maxLen at g1
  have ho := out_le x i hg
  simp only [ofNat_eq, toNat_cast, Nat.zero_add, Nat.add_zero, Nat.mul_one, List.drop_zero, bCells_len, bCells_drop, bCells_take, bCells_app, bCells_one, bCells_plain, List.length_replicate, List.length_append, List.length_take, List.length_drop, List.take_length, and_true, true_and, and_self, decide_true, List.length_nil, List.length_cons, Nat.sub_zero, dB_mk, dB_ro, List.take_zero]
  refine br_if (fun h => br_dec (by omega) ?_) (fun h => ?_)
  · have h1 : i < x.g.l.length := by omega
    obtain ⟨c0, c1, c2, d0, d1, d2⟩ := rGet x.g.l i h1
    obtain ⟨r1, r2, r3⟩ := g2 _ (List.getElem_mem h1)
    have hn := out_next x i h1
    have w1 : IntKind.i64.wrap ((i : Int) + 1) = ((i + 1 : Nat) : Int) := by rw [wr64_id (by unfold I64; omega)]; omega
    have hit := itoa_le _ r1
    have l1 := word_le x.g.l[i].n
    have l2 := word_le x.g.l[i].v
    have q0 : (bs x.g.l[i].n).data.toList.length = x.g.l[i].n.length := rfl
    rw [d0, d1, d2]
    simp only [wordZ_bs, Lit, w1]
    generalize x.g.l[i] = r at *
    generalize hP : outRo x i = P at *
    generalize hX : Lib.itoa r.h = X at *
    generalize hV : wordL r.n = V at *
    generalize hU : wordL r.v = U at *
    have eX : Value.int IntKind.u8 (32 : Int) :: List.map (fun b => Value.int IntKind.u8 (b.toNat : Int)) ([] ++ X ++ [61]) = bCells (32 :: (X ++ [61])) := rfl
    have q0 : (L (bs r.n)).length = r.n.length := rfl
    have q1 : (L (bs r.v)).length = r.v.length := rfl
    rw [eX, bCells_one]
    simp only [tkB _ P rfl, bc61, bCells_app]
    have qc : ∀ A : List UInt8, (bCells A).length = A.length := bCells_len
    simp only [List.nil_append, List.length_map, List.length_append, List.length_cons, List.length_nil, qc]
    refine ⟨c0, c1, c2, r1, ?_⟩
    repeat' first
      | refine br_dec (by omega) ?_
      | refine br_b rfl ?_
      | refine And.intro (by omega) ?_
    refine ⟨i + 1, by omega, by omega, ?_, rfl, rPl _, ?_⟩
    · rw [hn]; simp only [List.length_append, List.length_cons, List.length_nil]
    · rw [tkB _ (P ++ 32 :: (X ++ [61])) (by simp), bCells_app, tkB _ (P ++ 32 :: (X ++ [61]) ++ V) (by simp; omega), bCells_app, tkB _ (P ++ 32 :: (X ++ [61]) ++ V ++ [61]) (by simp; omega), bCells_app, hn]
  · have : i = x.g.l.length := by omega
    subst this
    exact ⟨(), rfl, rPl _, rfl⟩
end Go.Proofs.YtnbfhihibgdgpaaGreatDoor.sl
