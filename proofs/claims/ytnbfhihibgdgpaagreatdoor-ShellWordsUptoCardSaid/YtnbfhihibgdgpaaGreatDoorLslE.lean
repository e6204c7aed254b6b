/- A step's line, as shell writes it: the two kinds with heads. -/
import Derived.Test.YtnbfhihibgdgpaaGreatDoorSz9
import Derived.Test.YtnbfhihibgdgpaaGreatDoorRows
import Derived.Test.YtnbfhihibgdgpaaGreatDoorLslD
set_option maxRecDepth 20000
set_option linter.unusedSimpArgs false
set_option linter.unusedVariables false
namespace Go.Proofs.YtnbfhihibgdgpaaGreatDoor.sl
open Go Go.Ev Go.Sy Go.RowKit Go.Proofs.YtnbfhihibgdgpaaGreatDoor.gl Go.Proofs.YtnbfhihibgdgpaaGreatDoor.tk Go.Proofs.YtnbfhihibgdgpaaGreatDoor.it Go.Proofs.YtnbfhihibgdgpaaGreatDoor.sn
def lh6 (g : GS) : List UInt8 := [97, 110, 115, 119, 101, 114] ++ nW g.a ++ nW g.c ++ tW g
def li6 (g : GS) : List UInt8 := lh6 g ++ rwsL g.l
theorem Li6_vc (g : GS) (v : ByteArray) : mcall EtLi mRo8 200 6 [.agg ⟨stpC { g with k := 6 }⟩] ⟨mkR (nums 0 [gRo enR g.l]), 1⟩ (retIs 1 (.string v) [gRo enR g.l]) =
  ((((True /\ True) /\ (True /\ (True /\ I64 g.2)))) /\ (br (decide (1 + List.length (Array.toList (ByteArray.data (itoaB g.2))) <= 9223372036854775807)) (br (allOne
  (Value.int IntKind.u8 (32 : Int) :: List.map (fun b ↦ Value.int IntKind.u8 (↑(UInt8.toNat b) : Int)) ([] ++ Array.toList (ByteArray.data (itoaB g.2))))) (br (decide (6 +
  List.length (32 :: ([] ++ Array.toList (ByteArray.data (itoaB g.2)))) <= 16777216)) ((((True /\ True) /\ (True /\ (True /\ I64 g.4)))) /\ (br (decide (1 + List.length
  (Array.toList (ByteArray.data (itoaB g.4))) <= 9223372036854775807)) (br (allOne (Value.int IntKind.u8 (32 : Int) :: List.map (fun b ↦ Value.int IntKind.u8 (↑(UInt8.toNat
  b) : Int)) ([] ++ Array.toList (ByteArray.data (itoaB g.4))))) (br (decide (6 + List.length (32 :: ([] ++ Array.toList (ByteArray.data (itoaB g.2)))) + List.length (32 ::
  ([] ++ Array.toList (ByteArray.data (itoaB g.4)))) <= 16777216)) (br (decide (0 + (6 + List.length (32 :: ([] ++ Array.toList (ByteArray.data (itoaB g.2))))) * 1 <=
  List.length (Value.int IntKind.u8 (97 : Int) :: Value.int IntKind.u8 (110 : Int) :: Value.int IntKind.u8 (115 : Int) :: Value.int IntKind.u8 (119 : Int) :: Value.int
  IntKind.u8 (101 : Int) :: Value.int IntKind.u8 (114 : Int) :: Value.int IntKind.u8 (32 : Int) :: List.map (fun b ↦ Value.int IntKind.u8 (↑(UInt8.toNat b) : Int)) ([] ++
  Array.toList (ByteArray.data (itoaB g.2)))))) (br (g.7) (br (decide (6 + List.length (32 :: ([] ++ Array.toList (ByteArray.data (itoaB g.2)))) + List.length (32 :: ([] ++
  Array.toList (ByteArray.data (itoaB g.4)))) + 6 <= 16777216)) (br (decide (0 + (6 + List.length (32 :: ([] ++ Array.toList (ByteArray.data (itoaB g.2)))) + List.length (32
  :: ([] ++ Array.toList (ByteArray.data (itoaB g.4))))) * 1 <= List.length (Value.int IntKind.u8 (97 : Int) :: (List.take (0 + (6 + (List.length ([] ++ Array.toList
  (ByteArray.data (itoaB g.2))) + 0))) (Value.int IntKind.u8 (110 : Int) :: Value.int IntKind.u8 (115 : Int) :: Value.int IntKind.u8 (119 : Int) :: Value.int IntKind.u8 (101
  : Int) :: Value.int IntKind.u8 (114 : Int) :: Value.int IntKind.u8 (32 : Int) :: List.map (fun b ↦ Value.int IntKind.u8 (↑(UInt8.toNat b) : Int)) ([] ++ Array.toList
  (ByteArray.data (itoaB g.2)))) ++ Value.int IntKind.u8 (32 : Int) :: List.map (fun b ↦ Value.int IntKind.u8 (↑(UInt8.toNat b) : Int)) ([] ++ Array.toList (ByteArray.data
  (itoaB g.4))))))) ((((True /\ True) /\ (True /\ ((Plain (bCells (wordZ (bs g.6))) /\ True) /\ List.length (L (bs g.6)) <= 4000)))) /\ (br (decide (0 + List.length (wordZ
  (bs g.6)) * 1 <= List.length (bCells (wordZ (bs g.6))))) (br (allOne (List.take (List.length (wordZ (bs g.6)) * 1) (List.drop 0 (bCells (wordZ (bs g.6)))))) (br (decide (6
  + List.length (32 :: ([] ++ Array.toList (ByteArray.data (itoaB g.2)))) + List.length (32 :: ([] ++ Array.toList (ByteArray.data (itoaB g.4)))) + 6 + List.length (wordZ
  (bs g.6)) <= 16777216)) (br (decide (0 < 6 + List.length (32 :: ([] ++ Array.toList (ByteArray.data (itoaB g.2)))) + List.length (32 :: ([] ++ Array.toList (ByteArray.data
  (itoaB g.4)))) + 6 + List.length (wordZ (bs g.6)) ∨ List.length (Value.int IntKind.u8 (97 : Int) :: (List.take (0 + (6 + List.length (32 :: ([] ++ Array.toList
  (ByteArray.data (itoaB g.2)))) + (List.length ([] ++ Array.toList (ByteArray.data (itoaB g.4))) + 0))) (List.take (0 + (6 + (List.length ([] ++ Array.toList
  (ByteArray.data (itoaB g.2))) + 0))) (Value.int IntKind.u8 (110 : Int) :: Value.int IntKind.u8 (115 : Int) :: Value.int IntKind.u8 (119 : Int) :: Value.int IntKind.u8 (101
  : Int) :: Value.int IntKind.u8 (114 : Int) :: Value.int IntKind.u8 (32 : Int) :: List.map (fun b ↦ Value.int IntKind.u8 (↑(UInt8.toNat b) : Int)) ([] ++ Array.toList
  (ByteArray.data (itoaB g.2)))) ++ Value.int IntKind.u8 (32 : Int) :: List.map (fun b ↦ Value.int IntKind.u8 (↑(UInt8.toNat b) : Int)) ([] ++ Array.toList (ByteArray.data
  (itoaB g.4)))) ++ [Value.int IntKind.u8 (32 : Int), Value.int IntKind.u8 (101 : Int), Value.int IntKind.u8 (110 : Int), Value.int IntKind.u8 (100 : Int), Value.int
  IntKind.u8 (32 : Int), Value.int IntKind.u8 (61 : Int)])) = 0)) (br (decide (0 + (6 + List.length (32 :: ([] ++ Array.toList (ByteArray.data (itoaB g.2)))) + List.length
  (32 :: ([] ++ Array.toList (ByteArray.data (itoaB g.4)))) + 6) * 1 <= List.length (Value.int IntKind.u8 (97 : Int) :: (List.take (0 + (6 + List.length (32 :: ([] ++
  Array.toList (ByteArray.data (itoaB g.2)))) + (List.length ([] ++ Array.toList (ByteArray.data (itoaB g.4))) + 0))) (List.take (0 + (6 + (List.length ([] ++ Array.toList
  (ByteArray.data (itoaB g.2))) + 0))) (Value.int IntKind.u8 (110 : Int) :: Value.int IntKind.u8 (115 : Int) :: Value.int IntKind.u8 (119 : Int) :: Value.int IntKind.u8 (101
  : Int) :: Value.int IntKind.u8 (114 : Int) :: Value.int IntKind.u8 (32 : Int) :: List.map (fun b ↦ Value.int IntKind.u8 (↑(UInt8.toNat b) : Int)) ([] ++ Array.toList
  (ByteArray.data (itoaB g.2)))) ++ Value.int IntKind.u8 (32 : Int) :: List.map (fun b ↦ Value.int IntKind.u8 (↑(UInt8.toNat b) : Int)) ([] ++ Array.toList (ByteArray.data
  (itoaB g.4)))) ++ [Value.int IntKind.u8 (32 : Int), Value.int IntKind.u8 (101 : Int), Value.int IntKind.u8 (110 : Int), Value.int IntKind.u8 (100 : Int), Value.int
  IntKind.u8 (32 : Int), Value.int IntKind.u8 (61 : Int)])))) (∃ g2 : GR, ((okRo g2) /\ ((0 = 0) /\ ((0 = 0) /\ ((List.length (outRo g2 0) = 6 + List.length (32 :: ([] ++
  Array.toList (ByteArray.data (itoaB g.2)))) + List.length (32 :: ([] ++ Array.toList (ByteArray.data (itoaB g.4)))) + 6 + List.length (wordZ (bs g.6))) /\ ((0 = 0) /\ ((0
  = 0) /\ ((List.length g2.1.5 = List.length g.5) /\ (((↑(List.length g2.1.5) : Int) = Int.ofNat (List.length g.5)) /\ (((0 : Int) = (0 : Int)) /\ ((Eq (α := List Value) (gC
  enR g2.1.5) (gC enR g.5)) /\ ((Plain (gC enR g2.1.5)) /\ ((g2.1.1 = (6 : Int)) /\ ((g2.1.2 = g.2) /\ ((g2.1.3 = g.3) /\ ((g2.1.4 = g.4) /\ ((0 = 0) /\ ((List.length g2.1.5
  = List.length g.5) /\ ((bs g2.1.6 = bs g.6) /\ ((g2.1.7 = g.7) /\ ((itP 8 = ByteArray.mk #[110, 115, 116, 114]) /\ (((4 : Int) = (4 : Int)) /\ ((Eq (α := List Value)
  (bCells (outRo g2 0)) (Value.int IntKind.u8 (97 : Int) :: (List.take (0 + (6 + List.length (32 :: ([] ++ Array.toList (ByteArray.data (itoaB g.2)))) + List.length (32 ::
  ([] ++ Array.toList (ByteArray.data (itoaB g.4)))) + 5)) (List.take (0 + (6 + List.length (32 :: ([] ++ Array.toList (ByteArray.data (itoaB g.2)))) + (List.length ([] ++
  Array.toList (ByteArray.data (itoaB g.4))) + 0))) (List.take (0 + (6 + (List.length ([] ++ Array.toList (ByteArray.data (itoaB g.2))) + 0))) (Value.int IntKind.u8 (110 :
  Int) :: Value.int IntKind.u8 (115 : Int) :: Value.int IntKind.u8 (119 : Int) :: Value.int IntKind.u8 (101 : Int) :: Value.int IntKind.u8 (114 : Int) :: Value.int
  IntKind.u8 (32 : Int) :: List.map (fun b ↦ Value.int IntKind.u8 (↑(UInt8.toNat b) : Int)) ([] ++ Array.toList (ByteArray.data (itoaB g.2)))) ++ Value.int IntKind.u8 (32 :
  Int) :: List.map (fun b ↦ Value.int IntKind.u8 (↑(UInt8.toNat b) : Int)) ([] ++ Array.toList (ByteArray.data (itoaB g.4)))) ++ [Value.int IntKind.u8 (32 : Int), Value.int
  IntKind.u8 (101 : Int), Value.int IntKind.u8 (110 : Int), Value.int IntKind.u8 (100 : Int), Value.int IntKind.u8 (32 : Int), Value.int IntKind.u8 (61 : Int)]) ++ List.take
  (List.length (wordZ (bs g.6)) * 1) (List.drop 0 (bCells (wordZ (bs g.6))))))) /\ ((Plain (bCells (outRo g2 0))) /\ (∀ (y : Unit), ((True) → (br (decide (0 + List.length
  (outRo g2 (List.length g2.1.5)) <= List.length (bCells (outRo g2 (List.length g2.1.5))))) ((AllB (List.take (List.length (outRo g2 (List.length g2.1.5))) (List.drop 0
  (bCells (outRo g2 (List.length g2.1.5)))))) /\ ((v = ByteArray.mk (Array.mk (List.map bOf (List.take (List.length (outRo g2 (List.length g2.1.5))) (List.drop 0 (bCells
  (outRo g2 (List.length g2.1.5)))))))) /\ ((Eq (α := List Value) (gC enR g.5) (gC enR g2.1.5)) /\ ((Plain (gC enR g.5)) /\ True)))) False))))))))))))))))))))))))))) False)
  (∃ g2 : GR, ((okRo g2) /\ ((0 = 0) /\ ((0 = 0) /\ ((List.length (outRo g2 0) = 6 + List.length (32 :: ([] ++ Array.toList (ByteArray.data (itoaB g.2)))) + List.length (32
  :: ([] ++ Array.toList (ByteArray.data (itoaB g.4)))) + 6) /\ ((0 = 0) /\ ((0 = 0) /\ ((List.length g2.1.5 = List.length g.5) /\ (((↑(List.length g2.1.5) : Int) =
  Int.ofNat (List.length g.5)) /\ (((0 : Int) = (0 : Int)) /\ ((Eq (α := List Value) (gC enR g2.1.5) (gC enR g.5)) /\ ((Plain (gC enR g2.1.5)) /\ ((g2.1.1 = (6 : Int)) /\
  ((g2.1.2 = g.2) /\ ((g2.1.3 = g.3) /\ ((g2.1.4 = g.4) /\ ((0 = 0) /\ ((List.length g2.1.5 = List.length g.5) /\ ((bs g2.1.6 = bs g.6) /\ ((g2.1.7 = g.7) /\ ((itP 8 =
  ByteArray.mk #[110, 115, 116, 114]) /\ (((4 : Int) = (4 : Int)) /\ ((Eq (α := List Value) (bCells (outRo g2 0)) (Value.int IntKind.u8 (97 : Int) :: (List.take (0 + (6 +
  List.length (32 :: ([] ++ Array.toList (ByteArray.data (itoaB g.2)))) + (List.length ([] ++ Array.toList (ByteArray.data (itoaB g.4))) + 0))) (List.take (0 + (6 +
  (List.length ([] ++ Array.toList (ByteArray.data (itoaB g.2))) + 0))) (Value.int IntKind.u8 (110 : Int) :: Value.int IntKind.u8 (115 : Int) :: Value.int IntKind.u8 (119 :
  Int) :: Value.int IntKind.u8 (101 : Int) :: Value.int IntKind.u8 (114 : Int) :: Value.int IntKind.u8 (32 : Int) :: List.map (fun b ↦ Value.int IntKind.u8 (↑(UInt8.toNat b)
  : Int)) ([] ++ Array.toList (ByteArray.data (itoaB g.2)))) ++ Value.int IntKind.u8 (32 : Int) :: List.map (fun b ↦ Value.int IntKind.u8 (↑(UInt8.toNat b) : Int)) ([] ++
  Array.toList (ByteArray.data (itoaB g.4)))) ++ [Value.int IntKind.u8 (32 : Int), Value.int IntKind.u8 (101 : Int), Value.int IntKind.u8 (110 : Int), Value.int IntKind.u8
  (100 : Int), Value.int IntKind.u8 (32 : Int), Value.int IntKind.u8 (61 : Int)]))) /\ ((Plain (bCells (outRo g2 0))) /\ (∀ (y : Unit), ((True) → (br (decide (0 +
  List.length (outRo g2 (List.length g2.1.5)) <= List.length (bCells (outRo g2 (List.length g2.1.5))))) ((AllB (List.take (List.length (outRo g2 (List.length g2.1.5)))
  (List.drop 0 (bCells (outRo g2 (List.length g2.1.5)))))) /\ ((v = ByteArray.mk (Array.mk (List.map bOf (List.take (List.length (outRo g2 (List.length g2.1.5))) (List.drop
  0 (bCells (outRo g2 (List.length g2.1.5)))))))) /\ ((Eq (α := List Value) (gC enR g.5) (gC enR g2.1.5)) /\ ((Plain (gC enR g.5)) /\ True))))
  False)))))))))))))))))))))))))))) False) False) False)) False) False) (br (decide (6 + List.length (32 :: ([] ++ Array.toList (ByteArray.data (itoaB g.2)))) + List.length
  (32 :: ([] ++ Array.toList (ByteArray.data (itoaB g.4)))) + 5 <= 16777216)) (br (decide (0 + (6 + List.length (32 :: ([] ++ Array.toList (ByteArray.data (itoaB g.2)))) +
  List.length (32 :: ([] ++ Array.toList (ByteArray.data (itoaB g.4))))) * 1 <= List.length (Value.int IntKind.u8 (97 : Int) :: (List.take (0 + (6 + (List.length ([] ++
  Array.toList (ByteArray.data (itoaB g.2))) + 0))) (Value.int IntKind.u8 (110 : Int) :: Value.int IntKind.u8 (115 : Int) :: Value.int IntKind.u8 (119 : Int) :: Value.int
  IntKind.u8 (101 : Int) :: Value.int IntKind.u8 (114 : Int) :: Value.int IntKind.u8 (32 : Int) :: List.map (fun b ↦ Value.int IntKind.u8 (↑(UInt8.toNat b) : Int)) ([] ++
  Array.toList (ByteArray.data (itoaB g.2)))) ++ Value.int IntKind.u8 (32 : Int) :: List.map (fun b ↦ Value.int IntKind.u8 (↑(UInt8.toNat b) : Int)) ([] ++ Array.toList
  (ByteArray.data (itoaB g.4))))))) ((((True /\ True) /\ (True /\ ((Plain (bCells (wordZ (bs g.6))) /\ True) /\ List.length (L (bs g.6)) <= 4000)))) /\ (br (decide (0 +
  List.length (wordZ (bs g.6)) * 1 <= List.length (bCells (wordZ (bs g.6))))) (br (allOne (List.take (List.length (wordZ (bs g.6)) * 1) (List.drop 0 (bCells (wordZ (bs
  g.6)))))) (br (decide (6 + List.length (32 :: ([] ++ Array.toList (ByteArray.data (itoaB g.2)))) + List.length (32 :: ([] ++ Array.toList (ByteArray.data (itoaB g.4)))) +
  5 + List.length (wordZ (bs g.6)) <= 16777216)) (br (decide (0 < 6 + List.length (32 :: ([] ++ Array.toList (ByteArray.data (itoaB g.2)))) + List.length (32 :: ([] ++
  Array.toList (ByteArray.data (itoaB g.4)))) + 5 + List.length (wordZ (bs g.6)) ∨ List.length (Value.int IntKind.u8 (97 : Int) :: (List.take (0 + (6 + List.length (32 ::
  ([] ++ Array.toList (ByteArray.data (itoaB g.2)))) + (List.length ([] ++ Array.toList (ByteArray.data (itoaB g.4))) + 0))) (List.take (0 + (6 + (List.length ([] ++
  Array.toList (ByteArray.data (itoaB g.2))) + 0))) (Value.int IntKind.u8 (110 : Int) :: Value.int IntKind.u8 (115 : Int) :: Value.int IntKind.u8 (119 : Int) :: Value.int
  IntKind.u8 (101 : Int) :: Value.int IntKind.u8 (114 : Int) :: Value.int IntKind.u8 (32 : Int) :: List.map (fun b ↦ Value.int IntKind.u8 (↑(UInt8.toNat b) : Int)) ([] ++
  Array.toList (ByteArray.data (itoaB g.2)))) ++ Value.int IntKind.u8 (32 : Int) :: List.map (fun b ↦ Value.int IntKind.u8 (↑(UInt8.toNat b) : Int)) ([] ++ Array.toList
  (ByteArray.data (itoaB g.4)))) ++ [Value.int IntKind.u8 (32 : Int), Value.int IntKind.u8 (111 : Int), Value.int IntKind.u8 (110 : Int), Value.int IntKind.u8 (32 : Int),
  Value.int IntKind.u8 (61 : Int)])) = 0)) (br (decide (0 + (6 + List.length (32 :: ([] ++ Array.toList (ByteArray.data (itoaB g.2)))) + List.length (32 :: ([] ++
  Array.toList (ByteArray.data (itoaB g.4)))) + 5) * 1 <= List.length (Value.int IntKind.u8 (97 : Int) :: (List.take (0 + (6 + List.length (32 :: ([] ++ Array.toList
  (ByteArray.data (itoaB g.2)))) + (List.length ([] ++ Array.toList (ByteArray.data (itoaB g.4))) + 0))) (List.take (0 + (6 + (List.length ([] ++ Array.toList
  (ByteArray.data (itoaB g.2))) + 0))) (Value.int IntKind.u8 (110 : Int) :: Value.int IntKind.u8 (115 : Int) :: Value.int IntKind.u8 (119 : Int) :: Value.int IntKind.u8 (101
  : Int) :: Value.int IntKind.u8 (114 : Int) :: Value.int IntKind.u8 (32 : Int) :: List.map (fun b ↦ Value.int IntKind.u8 (↑(UInt8.toNat b) : Int)) ([] ++ Array.toList
  (ByteArray.data (itoaB g.2)))) ++ Value.int IntKind.u8 (32 : Int) :: List.map (fun b ↦ Value.int IntKind.u8 (↑(UInt8.toNat b) : Int)) ([] ++ Array.toList (ByteArray.data
  (itoaB g.4)))) ++ [Value.int IntKind.u8 (32 : Int), Value.int IntKind.u8 (111 : Int), Value.int IntKind.u8 (110 : Int), Value.int IntKind.u8 (32 : Int), Value.int
  IntKind.u8 (61 : Int)])))) (∃ g2 : GR, ((okRo g2) /\ ((0 = 0) /\ ((0 = 0) /\ ((List.length (outRo g2 0) = 6 + List.length (32 :: ([] ++ Array.toList (ByteArray.data (itoaB
  g.2)))) + List.length (32 :: ([] ++ Array.toList (ByteArray.data (itoaB g.4)))) + 5 + List.length (wordZ (bs g.6))) /\ ((0 = 0) /\ ((0 = 0) /\ ((List.length g2.1.5 =
  List.length g.5) /\ (((↑(List.length g2.1.5) : Int) = Int.ofNat (List.length g.5)) /\ (((0 : Int) = (0 : Int)) /\ ((Eq (α := List Value) (gC enR g2.1.5) (gC enR g.5)) /\
  ((Plain (gC enR g2.1.5)) /\ ((g2.1.1 = (6 : Int)) /\ ((g2.1.2 = g.2) /\ ((g2.1.3 = g.3) /\ ((g2.1.4 = g.4) /\ ((0 = 0) /\ ((List.length g2.1.5 = List.length g.5) /\ ((bs
  g2.1.6 = bs g.6) /\ ((g2.1.7 = g.7) /\ ((itP 8 = ByteArray.mk #[110, 115, 116, 114]) /\ (((4 : Int) = (4 : Int)) /\ ((Eq (α := List Value) (bCells (outRo g2 0)) (Value.int
  IntKind.u8 (97 : Int) :: (List.take (0 + (6 + List.length (32 :: ([] ++ Array.toList (ByteArray.data (itoaB g.2)))) + List.length (32 :: ([] ++ Array.toList
  (ByteArray.data (itoaB g.4)))) + 4)) (List.take (0 + (6 + List.length (32 :: ([] ++ Array.toList (ByteArray.data (itoaB g.2)))) + (List.length ([] ++ Array.toList
  (ByteArray.data (itoaB g.4))) + 0))) (List.take (0 + (6 + (List.length ([] ++ Array.toList (ByteArray.data (itoaB g.2))) + 0))) (Value.int IntKind.u8 (110 : Int) ::
  Value.int IntKind.u8 (115 : Int) :: Value.int IntKind.u8 (119 : Int) :: Value.int IntKind.u8 (101 : Int) :: Value.int IntKind.u8 (114 : Int) :: Value.int IntKind.u8 (32 :
  Int) :: List.map (fun b ↦ Value.int IntKind.u8 (↑(UInt8.toNat b) : Int)) ([] ++ Array.toList (ByteArray.data (itoaB g.2)))) ++ Value.int IntKind.u8 (32 : Int) :: List.map
  (fun b ↦ Value.int IntKind.u8 (↑(UInt8.toNat b) : Int)) ([] ++ Array.toList (ByteArray.data (itoaB g.4)))) ++ [Value.int IntKind.u8 (32 : Int), Value.int IntKind.u8 (111 :
  Int), Value.int IntKind.u8 (110 : Int), Value.int IntKind.u8 (32 : Int), Value.int IntKind.u8 (61 : Int)]) ++ List.take (List.length (wordZ (bs g.6)) * 1) (List.drop 0
  (bCells (wordZ (bs g.6))))))) /\ ((Plain (bCells (outRo g2 0))) /\ (∀ (y : Unit), ((True) → (br (decide (0 + List.length (outRo g2 (List.length g2.1.5)) <= List.length
  (bCells (outRo g2 (List.length g2.1.5))))) ((AllB (List.take (List.length (outRo g2 (List.length g2.1.5))) (List.drop 0 (bCells (outRo g2 (List.length g2.1.5)))))) /\ ((v
  = ByteArray.mk (Array.mk (List.map bOf (List.take (List.length (outRo g2 (List.length g2.1.5))) (List.drop 0 (bCells (outRo g2 (List.length g2.1.5)))))))) /\ ((Eq (α :=
  List Value) (gC enR g.5) (gC enR g2.1.5)) /\ ((Plain (gC enR g.5)) /\ True)))) False))))))))))))))))))))))))))) False) (∃ g2 : GR, ((okRo g2) /\ ((0 = 0) /\ ((0 = 0) /\
  ((List.length (outRo g2 0) = 6 + List.length (32 :: ([] ++ Array.toList (ByteArray.data (itoaB g.2)))) + List.length (32 :: ([] ++ Array.toList (ByteArray.data (itoaB
  g.4)))) + 5) /\ ((0 = 0) /\ ((0 = 0) /\ ((List.length g2.1.5 = List.length g.5) /\ (((↑(List.length g2.1.5) : Int) = Int.ofNat (List.length g.5)) /\ (((0 : Int) = (0 :
  Int)) /\ ((Eq (α := List Value) (gC enR g2.1.5) (gC enR g.5)) /\ ((Plain (gC enR g2.1.5)) /\ ((g2.1.1 = (6 : Int)) /\ ((g2.1.2 = g.2) /\ ((g2.1.3 = g.3) /\ ((g2.1.4 = g.4)
  /\ ((0 = 0) /\ ((List.length g2.1.5 = List.length g.5) /\ ((bs g2.1.6 = bs g.6) /\ ((g2.1.7 = g.7) /\ ((itP 8 = ByteArray.mk #[110, 115, 116, 114]) /\ (((4 : Int) = (4 :
  Int)) /\ ((Eq (α := List Value) (bCells (outRo g2 0)) (Value.int IntKind.u8 (97 : Int) :: (List.take (0 + (6 + List.length (32 :: ([] ++ Array.toList (ByteArray.data
  (itoaB g.2)))) + (List.length ([] ++ Array.toList (ByteArray.data (itoaB g.4))) + 0))) (List.take (0 + (6 + (List.length ([] ++ Array.toList (ByteArray.data (itoaB g.2)))
  + 0))) (Value.int IntKind.u8 (110 : Int) :: Value.int IntKind.u8 (115 : Int) :: Value.int IntKind.u8 (119 : Int) :: Value.int IntKind.u8 (101 : Int) :: Value.int
  IntKind.u8 (114 : Int) :: Value.int IntKind.u8 (32 : Int) :: List.map (fun b ↦ Value.int IntKind.u8 (↑(UInt8.toNat b) : Int)) ([] ++ Array.toList (ByteArray.data (itoaB
  g.2)))) ++ Value.int IntKind.u8 (32 : Int) :: List.map (fun b ↦ Value.int IntKind.u8 (↑(UInt8.toNat b) : Int)) ([] ++ Array.toList (ByteArray.data (itoaB g.4)))) ++
  [Value.int IntKind.u8 (32 : Int), Value.int IntKind.u8 (111 : Int), Value.int IntKind.u8 (110 : Int), Value.int IntKind.u8 (32 : Int), Value.int IntKind.u8 (61 : Int)])))
  /\ ((Plain (bCells (outRo g2 0))) /\ (∀ (y : Unit), ((True) → (br (decide (0 + List.length (outRo g2 (List.length g2.1.5)) <= List.length (bCells (outRo g2 (List.length
  g2.1.5))))) ((AllB (List.take (List.length (outRo g2 (List.length g2.1.5))) (List.drop 0 (bCells (outRo g2 (List.length g2.1.5)))))) /\ ((v = ByteArray.mk (Array.mk
  (List.map bOf (List.take (List.length (outRo g2 (List.length g2.1.5))) (List.drop 0 (bCells (outRo g2 (List.length g2.1.5)))))))) /\ ((Eq (α := List Value) (gC enR g.5)
  (gC enR g2.1.5)) /\ ((Plain (gC enR g.5)) /\ True)))) False)))))))))))))))))))))))))))) False) False) False)) False) False)) False) False) False) False)) False) False)
  False)) := by kernel_rfl
theorem Li6_con (g : GS) (h : okG g) : Con Tryz.prog 6 [.agg ⟨stpC { g with k := 6 }⟩] [gRo enR g.l] (.string (bs (li6 g))) [gRo enR g.l] := by
  obtain ⟨ha, hb, hc, ht, hl, hr, hs⟩ := h
  refine con_vc (E := EtLi) mixed (calls_envT tLi_ok) (lok_envT _ _) (M := mRo8) (lm_one Ro8_piece) (Li6_vc g _) ?_
  have la := itoa_le _ ha
  have lb := itoa_le _ hb
  have lc := itoa_le _ hc
  have lw := word_le g.t
  have qt : (L (bs g.t)).length = g.t.length := rfl
  obtain ⟨H, hH⟩ : ∃ H, H = lh6 g := ⟨_, rfl⟩
  obtain ⟨R, hR⟩ : ∃ R, R = li6 g := ⟨_, rfl⟩
  have hx : ∀ i : Nat, outRo ⟨{ g with k := 6 }, H⟩ i = H ++ rwsL (g.l.take i) := fun _ => rfl
  rw [← hR]
  unfold li6 at hR
  rw [← hH] at hR
  unfold lh6 at hH
  simp only [tW, eW, nW] at hH
  simp only [ofNat_eq, toNat_cast, Nat.zero_add, Nat.add_zero, Nat.mul_one, List.drop_zero, bCells_len, bCells_drop, bCells_take, bCells_app, bCells_one, bCells_plain, List.length_replicate, List.length_append, List.length_take, List.length_drop, List.take_length, and_true, true_and, and_self, decide_true, List.length_nil, List.length_cons, Nat.sub_zero, dB_mk, dB_ro, List.take_zero, Lit, wordZ_bs, eMap, one32]
  generalize Lib.itoa g.a = A at *
  generalize Lib.itoa g.b = B at *
  generalize Lib.itoa g.c = C at *
  generalize wordL g.t = W at *
  have qc : ∀ A : List UInt8, (bCells A).length = A.length := bCells_len
  have pl := rPl g.l
  try simp only [List.length_append, List.length_cons, List.length_nil, qc]
  repeat' first
    | refine br_dec (by omega) ?_
    | refine br_b rfl ?_
    | exact absurd ‹False› id
    | refine And.intro (by omega) ?_
    | refine And.intro (by assumption) ?_
    | refine br_intro (fun he => ?_) (fun he => ?_)
  all_goals
    have hl0 : (outRo ⟨{ g with k := 6 }, H⟩ 0) = H := by rw [hx]; simp [rwsL]
    have hll : (outRo ⟨{ g with k := 6 }, H⟩ g.l.length) = R := by rw [hx, List.take_length, hR]
    have hH2 := hH
    simp only [he, if_true, if_false, Bool.false_eq_true, reduceIte] at hH2
    have hHl := congrArg List.length hH2
    simp only [List.length_append, List.length_cons, List.length_nil] at hHl
    refine ⟨⟨{ g with k := 6 }, H⟩, ⟨hl, hr, ?_⟩, ?_, rfl, rfl, rfl, pl, rfl, rfl, rfl, rfl, rfl, rfl, rfl, rfl, ?_, fun _ _ => br_dec (Nat.le_refl _) ⟨bCells_all _, ?_, rfl, pl⟩⟩
    · simp only; omega
    · rw [hl0]; omega
    · rw [hl0, hH2]
      simp (disch := (simp only [List.length_append, List.length_cons, List.length_nil, qc]; omega)) only [List.take_of_length_le]
      simp [bCells, bVal]
    · rw [bCells_bOf]
      exact congrArg bs hll.symm
end Go.Proofs.YtnbfhihibgdgpaaGreatDoor.sl
