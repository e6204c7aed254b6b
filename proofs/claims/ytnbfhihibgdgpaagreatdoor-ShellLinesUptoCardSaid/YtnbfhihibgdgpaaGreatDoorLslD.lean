/- A step's line, as shell writes it. -/
import Derived.Test.YtnbfhihibgdgpaaGreatDoorSz9
import Derived.Test.YtnbfhihibgdgpaaGreatDoorRows
import Derived.Test.YtnbfhihibgdgpaaGreatDoorLslC
set_option maxRecDepth 20000
set_option linter.unusedSimpArgs false
set_option linter.unusedVariables false
namespace Go.Proofs.YtnbfhihibgdgpaaGreatDoor.sl
open Go Go.Ev Go.Sy Go.RowKit Go.Proofs.YtnbfhihibgdgpaaGreatDoor.gl Go.Proofs.YtnbfhihibgdgpaaGreatDoor.tk Go.Proofs.YtnbfhihibgdgpaaGreatDoor.it Go.Proofs.YtnbfhihibgdgpaaGreatDoor.sn
def nW (n : Int) : List UInt8 := 32 :: Lib.itoa n
def eW (e : Bool) : List UInt8 := if e = true then [32, 101, 110, 100, 32, 61] else [32, 111, 110, 32, 61]
def tW (g : GS) : List UInt8 := eW g.e ++ wordL g.t
def li1 (g : GS) : List UInt8 := [111, 112, 101, 110] ++ nW g.a
def li3 (g : GS) : List UInt8 := [116, 101, 120, 116] ++ nW g.a ++ nW g.c ++ tW g
def li4 (g : GS) : List UInt8 := [99, 97, 110, 99, 101, 108] ++ nW g.a ++ nW g.c
def li5 (g : GS) : List UInt8 := [99, 108, 111, 115, 101] ++ nW g.a
def li7 (g : GS) : List UInt8 := [109, 111, 114, 101] ++ nW g.a ++ nW g.c ++ tW g
def li8 (g : GS) : List UInt8 := [98, 114, 101, 97, 107] ++ nW g.a ++ nW g.c
def li9 (g : GS) : List UInt8 := [99, 117, 116] ++ nW g.a
def li10 (g : GS) : List UInt8 := [115, 101, 110, 100] ++ nW g.a ++ nW g.b
def li11 (g : GS) : List UInt8 := [104, 101, 97, 114] ++ nW g.a ++ nW g.b
def li12 (g : GS) : List UInt8 := [112, 97, 115, 115] ++ nW g.a ++ nW g.b
def li13 (g : GS) : List UInt8 := [114, 101, 112, 108, 121] ++ nW g.a ++ nW g.b
def li14 (g : GS) : List UInt8 := [99, 108, 111, 99, 107] ++ nW g.b
noncomputable def iL (n : Int) : List UInt8 := (itoaB n).data.toList
theorem Li1_vc (g : GS) (v : ByteArray) : mcall EtLi noM 200 6 [.agg ⟨stpC { g with k := 1 }⟩] ⟨mkR (nums 0 [gRo enR g.l]), 1⟩ (retIs 1 (.string v) [gRo enR g.l]) =
  ((((True /\ True) /\ (True /\ (True /\ I64 g.2)))) /\ (br (decide (1 + List.length (iL g.2) <= 9223372036854775807)) (br (allOne (Value.int IntKind.u8 (32 : Int) ::
  List.map (fun b ↦ Value.int IntKind.u8 (↑(UInt8.toNat b) : Int)) ([] ++ iL g.2))) (br (decide (4 + List.length (32 :: ([] ++ iL g.2)) <= 16777216)) (br (decide (0 + (4 +
  List.length (32 :: ([] ++ iL g.2))) <= List.length (Value.int IntKind.u8 (111 : Int) :: Value.int IntKind.u8 (112 : Int) :: Value.int IntKind.u8 (101 : Int) :: Value.int
  IntKind.u8 (110 : Int) :: Value.int IntKind.u8 (32 : Int) :: List.map (fun b ↦ Value.int IntKind.u8 (↑(UInt8.toNat b) : Int)) ([] ++ iL g.2)))) ((AllB (Value.int
  IntKind.u8 (111 : Int) :: List.take (4 + (List.length ([] ++ iL g.2) + 0)) (Value.int IntKind.u8 (112 : Int) :: Value.int IntKind.u8 (101 : Int) :: Value.int IntKind.u8
  (110 : Int) :: Value.int IntKind.u8 (32 : Int) :: List.map (fun b ↦ Value.int IntKind.u8 (↑(UInt8.toNat b) : Int)) ([] ++ iL g.2)))) /\ ((v = ByteArray.mk (Array.mk (bOf
  (Value.int IntKind.u8 (↑(UInt8.toNat 111) : Int)) :: List.map bOf (List.take (4 + (List.length ([] ++ iL g.2) + 0)) (Value.int IntKind.u8 (112 : Int) :: Value.int
  IntKind.u8 (101 : Int) :: Value.int IntKind.u8 (110 : Int) :: Value.int IntKind.u8 (32 : Int) :: List.map (fun b ↦ Value.int IntKind.u8 (↑(UInt8.toNat b) : Int)) ([] ++ iL
  g.2)))))) /\ ((Eq (α := List Value) (gC enR g.5) (gC enR g.5)) /\ ((Plain (gC enR g.5)) /\ True)))) False) False) False) False)) := by kernel_rfl
theorem Li3_vc (g : GS) (v : ByteArray) : mcall EtLi noM 200 6 [.agg ⟨stpC { g with k := 3 }⟩] ⟨mkR (nums 0 [gRo enR g.l]), 1⟩ (retIs 1 (.string v) [gRo enR g.l]) =
  ((((True /\ True) /\ (True /\ (True /\ I64 g.2)))) /\ (br (decide (1 + List.length (iL g.2) <= 9223372036854775807)) (br (allOne (Value.int IntKind.u8 (32 : Int) ::
  List.map (fun b ↦ Value.int IntKind.u8 (↑(UInt8.toNat b) : Int)) ([] ++ iL g.2))) (br (decide (4 + List.length (32 :: ([] ++ iL g.2)) <= 16777216)) ((((True /\ True) /\
  (True /\ (True /\ I64 g.4)))) /\ (br (decide (1 + List.length (iL g.4) <= 9223372036854775807)) (br (allOne (Value.int IntKind.u8 (32 : Int) :: List.map (fun b ↦ Value.int
  IntKind.u8 (↑(UInt8.toNat b) : Int)) ([] ++ iL g.4))) (br (decide (4 + List.length (32 :: ([] ++ iL g.2)) + List.length (32 :: ([] ++ iL g.4)) <= 16777216)) (br (decide (0
  + (4 + List.length (32 :: ([] ++ iL g.2))) * 1 <= List.length (Value.int IntKind.u8 (116 : Int) :: Value.int IntKind.u8 (101 : Int) :: Value.int IntKind.u8 (120 : Int) ::
  Value.int IntKind.u8 (116 : Int) :: Value.int IntKind.u8 (32 : Int) :: List.map (fun b ↦ Value.int IntKind.u8 (↑(UInt8.toNat b) : Int)) ([] ++ iL g.2)))) (br (g.7) (br
  (decide (4 + List.length (32 :: ([] ++ iL g.2)) + List.length (32 :: ([] ++ iL g.4)) + 6 <= 16777216)) (br (decide (0 + (4 + List.length (32 :: ([] ++ iL g.2)) +
  List.length (32 :: ([] ++ iL g.4))) * 1 <= List.length (Value.int IntKind.u8 (116 : Int) :: (List.take (0 + (4 + (List.length ([] ++ iL g.2) + 0))) (Value.int IntKind.u8
  (101 : Int) :: Value.int IntKind.u8 (120 : Int) :: Value.int IntKind.u8 (116 : Int) :: Value.int IntKind.u8 (32 : Int) :: List.map (fun b ↦ Value.int IntKind.u8
  (↑(UInt8.toNat b) : Int)) ([] ++ iL g.2)) ++ Value.int IntKind.u8 (32 : Int) :: List.map (fun b ↦ Value.int IntKind.u8 (↑(UInt8.toNat b) : Int)) ([] ++ iL g.4)))))
  ((((True /\ True) /\ (True /\ ((Plain (bCells (wordZ (bs g.6))) /\ True) /\ List.length (L (bs g.6)) <= 4000)))) /\ (br (decide (0 + List.length (wordZ (bs g.6)) * 1 <=
  List.length (bCells (wordZ (bs g.6))))) (br (allOne (List.take (List.length (wordZ (bs g.6)) * 1) (List.drop 0 (bCells (wordZ (bs g.6)))))) (br (decide (4 + List.length
  (32 :: ([] ++ iL g.2)) + List.length (32 :: ([] ++ iL g.4)) + 6 + List.length (wordZ (bs g.6)) <= 16777216)) (br (decide (0 < 4 + List.length (32 :: ([] ++ iL g.2)) +
  List.length (32 :: ([] ++ iL g.4)) + 6 + List.length (wordZ (bs g.6)) ∨ List.length (Value.int IntKind.u8 (116 : Int) :: (List.take (0 + (4 + List.length (32 :: ([] ++ iL
  g.2)) + (List.length ([] ++ iL g.4) + 0))) (List.take (0 + (4 + (List.length ([] ++ iL g.2) + 0))) (Value.int IntKind.u8 (101 : Int) :: Value.int IntKind.u8 (120 : Int) ::
  Value.int IntKind.u8 (116 : Int) :: Value.int IntKind.u8 (32 : Int) :: List.map (fun b ↦ Value.int IntKind.u8 (↑(UInt8.toNat b) : Int)) ([] ++ iL g.2)) ++ Value.int
  IntKind.u8 (32 : Int) :: List.map (fun b ↦ Value.int IntKind.u8 (↑(UInt8.toNat b) : Int)) ([] ++ iL g.4)) ++ [Value.int IntKind.u8 (32 : Int), Value.int IntKind.u8 (101 :
  Int), Value.int IntKind.u8 (110 : Int), Value.int IntKind.u8 (100 : Int), Value.int IntKind.u8 (32 : Int), Value.int IntKind.u8 (61 : Int)])) = 0)) (br (decide (0 + (4 +
  List.length (32 :: ([] ++ iL g.2)) + List.length (32 :: ([] ++ iL g.4)) + 6) * 1 <= List.length (Value.int IntKind.u8 (116 : Int) :: (List.take (0 + (4 + List.length (32
  :: ([] ++ iL g.2)) + (List.length ([] ++ iL g.4) + 0))) (List.take (0 + (4 + (List.length ([] ++ iL g.2) + 0))) (Value.int IntKind.u8 (101 : Int) :: Value.int IntKind.u8
  (120 : Int) :: Value.int IntKind.u8 (116 : Int) :: Value.int IntKind.u8 (32 : Int) :: List.map (fun b ↦ Value.int IntKind.u8 (↑(UInt8.toNat b) : Int)) ([] ++ iL g.2)) ++
  Value.int IntKind.u8 (32 : Int) :: List.map (fun b ↦ Value.int IntKind.u8 (↑(UInt8.toNat b) : Int)) ([] ++ iL g.4)) ++ [Value.int IntKind.u8 (32 : Int), Value.int
  IntKind.u8 (101 : Int), Value.int IntKind.u8 (110 : Int), Value.int IntKind.u8 (100 : Int), Value.int IntKind.u8 (32 : Int), Value.int IntKind.u8 (61 : Int)])))) (br
  (decide (0 + (4 + List.length (32 :: ([] ++ iL g.2)) + List.length (32 :: ([] ++ iL g.4)) + 6 + List.length (wordZ (bs g.6))) <= List.length (Value.int IntKind.u8 (116 :
  Int) :: (List.take (0 + (4 + List.length (32 :: ([] ++ iL g.2)) + List.length (32 :: ([] ++ iL g.4)) + 5)) (List.take (0 + (4 + List.length (32 :: ([] ++ iL g.2)) +
  (List.length ([] ++ iL g.4) + 0))) (List.take (0 + (4 + (List.length ([] ++ iL g.2) + 0))) (Value.int IntKind.u8 (101 : Int) :: Value.int IntKind.u8 (120 : Int) ::
  Value.int IntKind.u8 (116 : Int) :: Value.int IntKind.u8 (32 : Int) :: List.map (fun b ↦ Value.int IntKind.u8 (↑(UInt8.toNat b) : Int)) ([] ++ iL g.2)) ++ Value.int
  IntKind.u8 (32 : Int) :: List.map (fun b ↦ Value.int IntKind.u8 (↑(UInt8.toNat b) : Int)) ([] ++ iL g.4)) ++ [Value.int IntKind.u8 (32 : Int), Value.int IntKind.u8 (101 :
  Int), Value.int IntKind.u8 (110 : Int), Value.int IntKind.u8 (100 : Int), Value.int IntKind.u8 (32 : Int), Value.int IntKind.u8 (61 : Int)]) ++ List.take (List.length
  (wordZ (bs g.6)) * 1) (List.drop 0 (bCells (wordZ (bs g.6)))))))) ((AllB (List.take (4 + List.length (32 :: ([] ++ iL g.2)) + List.length (32 :: ([] ++ iL g.4)) + 6 +
  List.length (wordZ (bs g.6))) (Value.int IntKind.u8 (116 : Int) :: (List.take (0 + (4 + List.length (32 :: ([] ++ iL g.2)) + List.length (32 :: ([] ++ iL g.4)) + 5))
  (List.take (0 + (4 + List.length (32 :: ([] ++ iL g.2)) + (List.length ([] ++ iL g.4) + 0))) (List.take (0 + (4 + (List.length ([] ++ iL g.2) + 0))) (Value.int IntKind.u8
  (101 : Int) :: Value.int IntKind.u8 (120 : Int) :: Value.int IntKind.u8 (116 : Int) :: Value.int IntKind.u8 (32 : Int) :: List.map (fun b ↦ Value.int IntKind.u8
  (↑(UInt8.toNat b) : Int)) ([] ++ iL g.2)) ++ Value.int IntKind.u8 (32 : Int) :: List.map (fun b ↦ Value.int IntKind.u8 (↑(UInt8.toNat b) : Int)) ([] ++ iL g.4)) ++
  [Value.int IntKind.u8 (32 : Int), Value.int IntKind.u8 (101 : Int), Value.int IntKind.u8 (110 : Int), Value.int IntKind.u8 (100 : Int), Value.int IntKind.u8 (32 : Int),
  Value.int IntKind.u8 (61 : Int)]) ++ List.take (List.length (wordZ (bs g.6)) * 1) (List.drop 0 (bCells (wordZ (bs g.6)))))))) /\ ((v = ByteArray.mk (Array.mk (List.map bOf
  (List.take (4 + List.length (32 :: ([] ++ iL g.2)) + List.length (32 :: ([] ++ iL g.4)) + 6 + List.length (wordZ (bs g.6))) (Value.int IntKind.u8 (116 : Int) :: (List.take
  (0 + (4 + List.length (32 :: ([] ++ iL g.2)) + List.length (32 :: ([] ++ iL g.4)) + 5)) (List.take (0 + (4 + List.length (32 :: ([] ++ iL g.2)) + (List.length ([] ++ iL
  g.4) + 0))) (List.take (0 + (4 + (List.length ([] ++ iL g.2) + 0))) (Value.int IntKind.u8 (101 : Int) :: Value.int IntKind.u8 (120 : Int) :: Value.int IntKind.u8 (116 :
  Int) :: Value.int IntKind.u8 (32 : Int) :: List.map (fun b ↦ Value.int IntKind.u8 (↑(UInt8.toNat b) : Int)) ([] ++ iL g.2)) ++ Value.int IntKind.u8 (32 : Int) :: List.map
  (fun b ↦ Value.int IntKind.u8 (↑(UInt8.toNat b) : Int)) ([] ++ iL g.4)) ++ [Value.int IntKind.u8 (32 : Int), Value.int IntKind.u8 (101 : Int), Value.int IntKind.u8 (110 :
  Int), Value.int IntKind.u8 (100 : Int), Value.int IntKind.u8 (32 : Int), Value.int IntKind.u8 (61 : Int)]) ++ List.take (List.length (wordZ (bs g.6)) * 1) (List.drop 0
  (bCells (wordZ (bs g.6)))))))))) /\ ((Eq (α := List Value) (gC enR g.5) (gC enR g.5)) /\ ((Plain (gC enR g.5)) /\ True)))) False) False) (br (decide (0 + (4 + List.length
  (32 :: ([] ++ iL g.2)) + List.length (32 :: ([] ++ iL g.4)) + 6) <= List.length (Value.int IntKind.u8 (116 : Int) :: (List.take (0 + (4 + List.length (32 :: ([] ++ iL
  g.2)) + (List.length ([] ++ iL g.4) + 0))) (List.take (0 + (4 + (List.length ([] ++ iL g.2) + 0))) (Value.int IntKind.u8 (101 : Int) :: Value.int IntKind.u8 (120 : Int) ::
  Value.int IntKind.u8 (116 : Int) :: Value.int IntKind.u8 (32 : Int) :: List.map (fun b ↦ Value.int IntKind.u8 (↑(UInt8.toNat b) : Int)) ([] ++ iL g.2)) ++ Value.int
  IntKind.u8 (32 : Int) :: List.map (fun b ↦ Value.int IntKind.u8 (↑(UInt8.toNat b) : Int)) ([] ++ iL g.4)) ++ [Value.int IntKind.u8 (32 : Int), Value.int IntKind.u8 (101 :
  Int), Value.int IntKind.u8 (110 : Int), Value.int IntKind.u8 (100 : Int), Value.int IntKind.u8 (32 : Int), Value.int IntKind.u8 (61 : Int)])))) ((AllB (Value.int
  IntKind.u8 (116 : Int) :: List.take (4 + List.length (32 :: ([] ++ iL g.2)) + List.length (32 :: ([] ++ iL g.4)) + 5) (List.take (0 + (4 + List.length (32 :: ([] ++ iL
  g.2)) + (List.length ([] ++ iL g.4) + 0))) (List.take (0 + (4 + (List.length ([] ++ iL g.2) + 0))) (Value.int IntKind.u8 (101 : Int) :: Value.int IntKind.u8 (120 : Int) ::
  Value.int IntKind.u8 (116 : Int) :: Value.int IntKind.u8 (32 : Int) :: List.map (fun b ↦ Value.int IntKind.u8 (↑(UInt8.toNat b) : Int)) ([] ++ iL g.2)) ++ Value.int
  IntKind.u8 (32 : Int) :: List.map (fun b ↦ Value.int IntKind.u8 (↑(UInt8.toNat b) : Int)) ([] ++ iL g.4)) ++ [Value.int IntKind.u8 (32 : Int), Value.int IntKind.u8 (101 :
  Int), Value.int IntKind.u8 (110 : Int), Value.int IntKind.u8 (100 : Int), Value.int IntKind.u8 (32 : Int), Value.int IntKind.u8 (61 : Int)]))) /\ ((v = ByteArray.mk
  (Array.mk (bOf (Value.int IntKind.u8 (↑(UInt8.toNat 116) : Int)) :: List.map bOf (List.take (4 + List.length (32 :: ([] ++ iL g.2)) + List.length (32 :: ([] ++ iL g.4)) +
  5) (List.take (0 + (4 + List.length (32 :: ([] ++ iL g.2)) + (List.length ([] ++ iL g.4) + 0))) (List.take (0 + (4 + (List.length ([] ++ iL g.2) + 0))) (Value.int
  IntKind.u8 (101 : Int) :: Value.int IntKind.u8 (120 : Int) :: Value.int IntKind.u8 (116 : Int) :: Value.int IntKind.u8 (32 : Int) :: List.map (fun b ↦ Value.int IntKind.u8
  (↑(UInt8.toNat b) : Int)) ([] ++ iL g.2)) ++ Value.int IntKind.u8 (32 : Int) :: List.map (fun b ↦ Value.int IntKind.u8 (↑(UInt8.toNat b) : Int)) ([] ++ iL g.4)) ++
  [Value.int IntKind.u8 (32 : Int), Value.int IntKind.u8 (101 : Int), Value.int IntKind.u8 (110 : Int), Value.int IntKind.u8 (100 : Int), Value.int IntKind.u8 (32 : Int),
  Value.int IntKind.u8 (61 : Int)]))))) /\ ((Eq (α := List Value) (gC enR g.5) (gC enR g.5)) /\ ((Plain (gC enR g.5)) /\ True)))) False)) False) False) False)) False) False)
  (br (decide (4 + List.length (32 :: ([] ++ iL g.2)) + List.length (32 :: ([] ++ iL g.4)) + 5 <= 16777216)) (br (decide (0 + (4 + List.length (32 :: ([] ++ iL g.2)) +
  List.length (32 :: ([] ++ iL g.4))) * 1 <= List.length (Value.int IntKind.u8 (116 : Int) :: (List.take (0 + (4 + (List.length ([] ++ iL g.2) + 0))) (Value.int IntKind.u8
  (101 : Int) :: Value.int IntKind.u8 (120 : Int) :: Value.int IntKind.u8 (116 : Int) :: Value.int IntKind.u8 (32 : Int) :: List.map (fun b ↦ Value.int IntKind.u8
  (↑(UInt8.toNat b) : Int)) ([] ++ iL g.2)) ++ Value.int IntKind.u8 (32 : Int) :: List.map (fun b ↦ Value.int IntKind.u8 (↑(UInt8.toNat b) : Int)) ([] ++ iL g.4)))))
  ((((True /\ True) /\ (True /\ ((Plain (bCells (wordZ (bs g.6))) /\ True) /\ List.length (L (bs g.6)) <= 4000)))) /\ (br (decide (0 + List.length (wordZ (bs g.6)) * 1 <=
  List.length (bCells (wordZ (bs g.6))))) (br (allOne (List.take (List.length (wordZ (bs g.6)) * 1) (List.drop 0 (bCells (wordZ (bs g.6)))))) (br (decide (4 + List.length
  (32 :: ([] ++ iL g.2)) + List.length (32 :: ([] ++ iL g.4)) + 5 + List.length (wordZ (bs g.6)) <= 16777216)) (br (decide (0 < 4 + List.length (32 :: ([] ++ iL g.2)) +
  List.length (32 :: ([] ++ iL g.4)) + 5 + List.length (wordZ (bs g.6)) ∨ List.length (Value.int IntKind.u8 (116 : Int) :: (List.take (0 + (4 + List.length (32 :: ([] ++ iL
  g.2)) + (List.length ([] ++ iL g.4) + 0))) (List.take (0 + (4 + (List.length ([] ++ iL g.2) + 0))) (Value.int IntKind.u8 (101 : Int) :: Value.int IntKind.u8 (120 : Int) ::
  Value.int IntKind.u8 (116 : Int) :: Value.int IntKind.u8 (32 : Int) :: List.map (fun b ↦ Value.int IntKind.u8 (↑(UInt8.toNat b) : Int)) ([] ++ iL g.2)) ++ Value.int
  IntKind.u8 (32 : Int) :: List.map (fun b ↦ Value.int IntKind.u8 (↑(UInt8.toNat b) : Int)) ([] ++ iL g.4)) ++ [Value.int IntKind.u8 (32 : Int), Value.int IntKind.u8 (111 :
  Int), Value.int IntKind.u8 (110 : Int), Value.int IntKind.u8 (32 : Int), Value.int IntKind.u8 (61 : Int)])) = 0)) (br (decide (0 + (4 + List.length (32 :: ([] ++ iL g.2))
  + List.length (32 :: ([] ++ iL g.4)) + 5) * 1 <= List.length (Value.int IntKind.u8 (116 : Int) :: (List.take (0 + (4 + List.length (32 :: ([] ++ iL g.2)) + (List.length
  ([] ++ iL g.4) + 0))) (List.take (0 + (4 + (List.length ([] ++ iL g.2) + 0))) (Value.int IntKind.u8 (101 : Int) :: Value.int IntKind.u8 (120 : Int) :: Value.int IntKind.u8
  (116 : Int) :: Value.int IntKind.u8 (32 : Int) :: List.map (fun b ↦ Value.int IntKind.u8 (↑(UInt8.toNat b) : Int)) ([] ++ iL g.2)) ++ Value.int IntKind.u8 (32 : Int) ::
  List.map (fun b ↦ Value.int IntKind.u8 (↑(UInt8.toNat b) : Int)) ([] ++ iL g.4)) ++ [Value.int IntKind.u8 (32 : Int), Value.int IntKind.u8 (111 : Int), Value.int
  IntKind.u8 (110 : Int), Value.int IntKind.u8 (32 : Int), Value.int IntKind.u8 (61 : Int)])))) (br (decide (0 + (4 + List.length (32 :: ([] ++ iL g.2)) + List.length (32 ::
  ([] ++ iL g.4)) + 5 + List.length (wordZ (bs g.6))) <= List.length (Value.int IntKind.u8 (116 : Int) :: (List.take (0 + (4 + List.length (32 :: ([] ++ iL g.2)) +
  List.length (32 :: ([] ++ iL g.4)) + 4)) (List.take (0 + (4 + List.length (32 :: ([] ++ iL g.2)) + (List.length ([] ++ iL g.4) + 0))) (List.take (0 + (4 + (List.length ([]
  ++ iL g.2) + 0))) (Value.int IntKind.u8 (101 : Int) :: Value.int IntKind.u8 (120 : Int) :: Value.int IntKind.u8 (116 : Int) :: Value.int IntKind.u8 (32 : Int) :: List.map
  (fun b ↦ Value.int IntKind.u8 (↑(UInt8.toNat b) : Int)) ([] ++ iL g.2)) ++ Value.int IntKind.u8 (32 : Int) :: List.map (fun b ↦ Value.int IntKind.u8 (↑(UInt8.toNat b) :
  Int)) ([] ++ iL g.4)) ++ [Value.int IntKind.u8 (32 : Int), Value.int IntKind.u8 (111 : Int), Value.int IntKind.u8 (110 : Int), Value.int IntKind.u8 (32 : Int), Value.int
  IntKind.u8 (61 : Int)]) ++ List.take (List.length (wordZ (bs g.6)) * 1) (List.drop 0 (bCells (wordZ (bs g.6)))))))) ((AllB (List.take (4 + List.length (32 :: ([] ++ iL
  g.2)) + List.length (32 :: ([] ++ iL g.4)) + 5 + List.length (wordZ (bs g.6))) (Value.int IntKind.u8 (116 : Int) :: (List.take (0 + (4 + List.length (32 :: ([] ++ iL g.2))
  + List.length (32 :: ([] ++ iL g.4)) + 4)) (List.take (0 + (4 + List.length (32 :: ([] ++ iL g.2)) + (List.length ([] ++ iL g.4) + 0))) (List.take (0 + (4 + (List.length
  ([] ++ iL g.2) + 0))) (Value.int IntKind.u8 (101 : Int) :: Value.int IntKind.u8 (120 : Int) :: Value.int IntKind.u8 (116 : Int) :: Value.int IntKind.u8 (32 : Int) ::
  List.map (fun b ↦ Value.int IntKind.u8 (↑(UInt8.toNat b) : Int)) ([] ++ iL g.2)) ++ Value.int IntKind.u8 (32 : Int) :: List.map (fun b ↦ Value.int IntKind.u8
  (↑(UInt8.toNat b) : Int)) ([] ++ iL g.4)) ++ [Value.int IntKind.u8 (32 : Int), Value.int IntKind.u8 (111 : Int), Value.int IntKind.u8 (110 : Int), Value.int IntKind.u8 (32
  : Int), Value.int IntKind.u8 (61 : Int)]) ++ List.take (List.length (wordZ (bs g.6)) * 1) (List.drop 0 (bCells (wordZ (bs g.6)))))))) /\ ((v = ByteArray.mk (Array.mk
  (List.map bOf (List.take (4 + List.length (32 :: ([] ++ iL g.2)) + List.length (32 :: ([] ++ iL g.4)) + 5 + List.length (wordZ (bs g.6))) (Value.int IntKind.u8 (116 : Int)
  :: (List.take (0 + (4 + List.length (32 :: ([] ++ iL g.2)) + List.length (32 :: ([] ++ iL g.4)) + 4)) (List.take (0 + (4 + List.length (32 :: ([] ++ iL g.2)) +
  (List.length ([] ++ iL g.4) + 0))) (List.take (0 + (4 + (List.length ([] ++ iL g.2) + 0))) (Value.int IntKind.u8 (101 : Int) :: Value.int IntKind.u8 (120 : Int) ::
  Value.int IntKind.u8 (116 : Int) :: Value.int IntKind.u8 (32 : Int) :: List.map (fun b ↦ Value.int IntKind.u8 (↑(UInt8.toNat b) : Int)) ([] ++ iL g.2)) ++ Value.int
  IntKind.u8 (32 : Int) :: List.map (fun b ↦ Value.int IntKind.u8 (↑(UInt8.toNat b) : Int)) ([] ++ iL g.4)) ++ [Value.int IntKind.u8 (32 : Int), Value.int IntKind.u8 (111 :
  Int), Value.int IntKind.u8 (110 : Int), Value.int IntKind.u8 (32 : Int), Value.int IntKind.u8 (61 : Int)]) ++ List.take (List.length (wordZ (bs g.6)) * 1) (List.drop 0
  (bCells (wordZ (bs g.6)))))))))) /\ ((Eq (α := List Value) (gC enR g.5) (gC enR g.5)) /\ ((Plain (gC enR g.5)) /\ True)))) False) False) (br (decide (0 + (4 + List.length
  (32 :: ([] ++ iL g.2)) + List.length (32 :: ([] ++ iL g.4)) + 5) <= List.length (Value.int IntKind.u8 (116 : Int) :: (List.take (0 + (4 + List.length (32 :: ([] ++ iL
  g.2)) + (List.length ([] ++ iL g.4) + 0))) (List.take (0 + (4 + (List.length ([] ++ iL g.2) + 0))) (Value.int IntKind.u8 (101 : Int) :: Value.int IntKind.u8 (120 : Int) ::
  Value.int IntKind.u8 (116 : Int) :: Value.int IntKind.u8 (32 : Int) :: List.map (fun b ↦ Value.int IntKind.u8 (↑(UInt8.toNat b) : Int)) ([] ++ iL g.2)) ++ Value.int
  IntKind.u8 (32 : Int) :: List.map (fun b ↦ Value.int IntKind.u8 (↑(UInt8.toNat b) : Int)) ([] ++ iL g.4)) ++ [Value.int IntKind.u8 (32 : Int), Value.int IntKind.u8 (111 :
  Int), Value.int IntKind.u8 (110 : Int), Value.int IntKind.u8 (32 : Int), Value.int IntKind.u8 (61 : Int)])))) ((AllB (Value.int IntKind.u8 (116 : Int) :: List.take (4 +
  List.length (32 :: ([] ++ iL g.2)) + List.length (32 :: ([] ++ iL g.4)) + 4) (List.take (0 + (4 + List.length (32 :: ([] ++ iL g.2)) + (List.length ([] ++ iL g.4) + 0)))
  (List.take (0 + (4 + (List.length ([] ++ iL g.2) + 0))) (Value.int IntKind.u8 (101 : Int) :: Value.int IntKind.u8 (120 : Int) :: Value.int IntKind.u8 (116 : Int) ::
  Value.int IntKind.u8 (32 : Int) :: List.map (fun b ↦ Value.int IntKind.u8 (↑(UInt8.toNat b) : Int)) ([] ++ iL g.2)) ++ Value.int IntKind.u8 (32 : Int) :: List.map (fun b ↦
  Value.int IntKind.u8 (↑(UInt8.toNat b) : Int)) ([] ++ iL g.4)) ++ [Value.int IntKind.u8 (32 : Int), Value.int IntKind.u8 (111 : Int), Value.int IntKind.u8 (110 : Int),
  Value.int IntKind.u8 (32 : Int), Value.int IntKind.u8 (61 : Int)]))) /\ ((v = ByteArray.mk (Array.mk (bOf (Value.int IntKind.u8 (↑(UInt8.toNat 116) : Int)) :: List.map bOf
  (List.take (4 + List.length (32 :: ([] ++ iL g.2)) + List.length (32 :: ([] ++ iL g.4)) + 4) (List.take (0 + (4 + List.length (32 :: ([] ++ iL g.2)) + (List.length ([] ++
  iL g.4) + 0))) (List.take (0 + (4 + (List.length ([] ++ iL g.2) + 0))) (Value.int IntKind.u8 (101 : Int) :: Value.int IntKind.u8 (120 : Int) :: Value.int IntKind.u8 (116 :
  Int) :: Value.int IntKind.u8 (32 : Int) :: List.map (fun b ↦ Value.int IntKind.u8 (↑(UInt8.toNat b) : Int)) ([] ++ iL g.2)) ++ Value.int IntKind.u8 (32 : Int) :: List.map
  (fun b ↦ Value.int IntKind.u8 (↑(UInt8.toNat b) : Int)) ([] ++ iL g.4)) ++ [Value.int IntKind.u8 (32 : Int), Value.int IntKind.u8 (111 : Int), Value.int IntKind.u8 (110 :
  Int), Value.int IntKind.u8 (32 : Int), Value.int IntKind.u8 (61 : Int)]))))) /\ ((Eq (α := List Value) (gC enR g.5) (gC enR g.5)) /\ ((Plain (gC enR g.5)) /\ True))))
  False)) False) False) False)) False) False)) False) False) False) False)) False) False) False)) := by kernel_rfl
theorem Li4_vc (g : GS) (v : ByteArray) : mcall EtLi noM 200 6 [.agg ⟨stpC { g with k := 4 }⟩] ⟨mkR (nums 0 [gRo enR g.l]), 1⟩ (retIs 1 (.string v) [gRo enR g.l]) =
  ((((True /\ True) /\ (True /\ (True /\ I64 g.2)))) /\ (br (decide (1 + List.length (iL g.2) <= 9223372036854775807)) (br (allOne (Value.int IntKind.u8 (32 : Int) ::
  List.map (fun b ↦ Value.int IntKind.u8 (↑(UInt8.toNat b) : Int)) ([] ++ iL g.2))) (br (decide (6 + List.length (32 :: ([] ++ iL g.2)) <= 16777216)) ((((True /\ True) /\
  (True /\ (True /\ I64 g.4)))) /\ (br (decide (1 + List.length (iL g.4) <= 9223372036854775807)) (br (allOne (Value.int IntKind.u8 (32 : Int) :: List.map (fun b ↦ Value.int
  IntKind.u8 (↑(UInt8.toNat b) : Int)) ([] ++ iL g.4))) (br (decide (6 + List.length (32 :: ([] ++ iL g.2)) + List.length (32 :: ([] ++ iL g.4)) <= 16777216)) (br (decide (0
  + (6 + List.length (32 :: ([] ++ iL g.2))) * 1 <= List.length (Value.int IntKind.u8 (99 : Int) :: Value.int IntKind.u8 (97 : Int) :: Value.int IntKind.u8 (110 : Int) ::
  Value.int IntKind.u8 (99 : Int) :: Value.int IntKind.u8 (101 : Int) :: Value.int IntKind.u8 (108 : Int) :: Value.int IntKind.u8 (32 : Int) :: List.map (fun b ↦ Value.int
  IntKind.u8 (↑(UInt8.toNat b) : Int)) ([] ++ iL g.2)))) (br (decide (0 + (6 + List.length (32 :: ([] ++ iL g.2)) + List.length (32 :: ([] ++ iL g.4))) <= List.length
  (Value.int IntKind.u8 (99 : Int) :: (List.take (0 + (6 + (List.length ([] ++ iL g.2) + 0))) (Value.int IntKind.u8 (97 : Int) :: Value.int IntKind.u8 (110 : Int) ::
  Value.int IntKind.u8 (99 : Int) :: Value.int IntKind.u8 (101 : Int) :: Value.int IntKind.u8 (108 : Int) :: Value.int IntKind.u8 (32 : Int) :: List.map (fun b ↦ Value.int
  IntKind.u8 (↑(UInt8.toNat b) : Int)) ([] ++ iL g.2)) ++ Value.int IntKind.u8 (32 : Int) :: List.map (fun b ↦ Value.int IntKind.u8 (↑(UInt8.toNat b) : Int)) ([] ++ iL
  g.4))))) ((AllB (Value.int IntKind.u8 (99 : Int) :: List.take (6 + List.length (32 :: ([] ++ iL g.2)) + (List.length ([] ++ iL g.4) + 0)) (List.take (0 + (6 + (List.length
  ([] ++ iL g.2) + 0))) (Value.int IntKind.u8 (97 : Int) :: Value.int IntKind.u8 (110 : Int) :: Value.int IntKind.u8 (99 : Int) :: Value.int IntKind.u8 (101 : Int) ::
  Value.int IntKind.u8 (108 : Int) :: Value.int IntKind.u8 (32 : Int) :: List.map (fun b ↦ Value.int IntKind.u8 (↑(UInt8.toNat b) : Int)) ([] ++ iL g.2)) ++ Value.int
  IntKind.u8 (32 : Int) :: List.map (fun b ↦ Value.int IntKind.u8 (↑(UInt8.toNat b) : Int)) ([] ++ iL g.4)))) /\ ((v = ByteArray.mk (Array.mk (bOf (Value.int IntKind.u8
  (↑(UInt8.toNat 99) : Int)) :: List.map bOf (List.take (6 + List.length (32 :: ([] ++ iL g.2)) + (List.length ([] ++ iL g.4) + 0)) (List.take (0 + (6 + (List.length ([] ++
  iL g.2) + 0))) (Value.int IntKind.u8 (97 : Int) :: Value.int IntKind.u8 (110 : Int) :: Value.int IntKind.u8 (99 : Int) :: Value.int IntKind.u8 (101 : Int) :: Value.int
  IntKind.u8 (108 : Int) :: Value.int IntKind.u8 (32 : Int) :: List.map (fun b ↦ Value.int IntKind.u8 (↑(UInt8.toNat b) : Int)) ([] ++ iL g.2)) ++ Value.int IntKind.u8 (32 :
  Int) :: List.map (fun b ↦ Value.int IntKind.u8 (↑(UInt8.toNat b) : Int)) ([] ++ iL g.4)))))) /\ ((Eq (α := List Value) (gC enR g.5) (gC enR g.5)) /\ ((Plain (gC enR g.5))
  /\ True)))) False) False) False) False) False)) False) False) False)) := by kernel_rfl
theorem Li5_vc (g : GS) (v : ByteArray) : mcall EtLi noM 200 6 [.agg ⟨stpC { g with k := 5 }⟩] ⟨mkR (nums 0 [gRo enR g.l]), 1⟩ (retIs 1 (.string v) [gRo enR g.l]) =
  ((((True /\ True) /\ (True /\ (True /\ I64 g.2)))) /\ (br (decide (1 + List.length (iL g.2) <= 9223372036854775807)) (br (allOne (Value.int IntKind.u8 (32 : Int) ::
  List.map (fun b ↦ Value.int IntKind.u8 (↑(UInt8.toNat b) : Int)) ([] ++ iL g.2))) (br (decide (5 + List.length (32 :: ([] ++ iL g.2)) <= 16777216)) (br (decide (0 + (5 +
  List.length (32 :: ([] ++ iL g.2))) <= List.length (Value.int IntKind.u8 (99 : Int) :: Value.int IntKind.u8 (108 : Int) :: Value.int IntKind.u8 (111 : Int) :: Value.int
  IntKind.u8 (115 : Int) :: Value.int IntKind.u8 (101 : Int) :: Value.int IntKind.u8 (32 : Int) :: List.map (fun b ↦ Value.int IntKind.u8 (↑(UInt8.toNat b) : Int)) ([] ++ iL
  g.2)))) ((AllB (Value.int IntKind.u8 (99 : Int) :: List.take (5 + (List.length ([] ++ iL g.2) + 0)) (Value.int IntKind.u8 (108 : Int) :: Value.int IntKind.u8 (111 : Int)
  :: Value.int IntKind.u8 (115 : Int) :: Value.int IntKind.u8 (101 : Int) :: Value.int IntKind.u8 (32 : Int) :: List.map (fun b ↦ Value.int IntKind.u8 (↑(UInt8.toNat b) :
  Int)) ([] ++ iL g.2)))) /\ ((v = ByteArray.mk (Array.mk (bOf (Value.int IntKind.u8 (↑(UInt8.toNat 99) : Int)) :: List.map bOf (List.take (5 + (List.length ([] ++ iL g.2) +
  0)) (Value.int IntKind.u8 (108 : Int) :: Value.int IntKind.u8 (111 : Int) :: Value.int IntKind.u8 (115 : Int) :: Value.int IntKind.u8 (101 : Int) :: Value.int IntKind.u8
  (32 : Int) :: List.map (fun b ↦ Value.int IntKind.u8 (↑(UInt8.toNat b) : Int)) ([] ++ iL g.2)))))) /\ ((Eq (α := List Value) (gC enR g.5) (gC enR g.5)) /\ ((Plain (gC enR
  g.5)) /\ True)))) False) False) False) False)) := by kernel_rfl
theorem Li7_vc (g : GS) (v : ByteArray) : mcall EtLi noM 200 6 [.agg ⟨stpC { g with k := 7 }⟩] ⟨mkR (nums 0 [gRo enR g.l]), 1⟩ (retIs 1 (.string v) [gRo enR g.l]) =
  ((((True /\ True) /\ (True /\ (True /\ I64 g.2)))) /\ (br (decide (1 + List.length (iL g.2) <= 9223372036854775807)) (br (allOne (Value.int IntKind.u8 (32 : Int) ::
  List.map (fun b ↦ Value.int IntKind.u8 (↑(UInt8.toNat b) : Int)) ([] ++ iL g.2))) (br (decide (4 + List.length (32 :: ([] ++ iL g.2)) <= 16777216)) ((((True /\ True) /\
  (True /\ (True /\ I64 g.4)))) /\ (br (decide (1 + List.length (iL g.4) <= 9223372036854775807)) (br (allOne (Value.int IntKind.u8 (32 : Int) :: List.map (fun b ↦ Value.int
  IntKind.u8 (↑(UInt8.toNat b) : Int)) ([] ++ iL g.4))) (br (decide (4 + List.length (32 :: ([] ++ iL g.2)) + List.length (32 :: ([] ++ iL g.4)) <= 16777216)) (br (decide (0
  + (4 + List.length (32 :: ([] ++ iL g.2))) * 1 <= List.length (Value.int IntKind.u8 (109 : Int) :: Value.int IntKind.u8 (111 : Int) :: Value.int IntKind.u8 (114 : Int) ::
  Value.int IntKind.u8 (101 : Int) :: Value.int IntKind.u8 (32 : Int) :: List.map (fun b ↦ Value.int IntKind.u8 (↑(UInt8.toNat b) : Int)) ([] ++ iL g.2)))) (br (g.7) (br
  (decide (4 + List.length (32 :: ([] ++ iL g.2)) + List.length (32 :: ([] ++ iL g.4)) + 6 <= 16777216)) (br (decide (0 + (4 + List.length (32 :: ([] ++ iL g.2)) +
  List.length (32 :: ([] ++ iL g.4))) * 1 <= List.length (Value.int IntKind.u8 (109 : Int) :: (List.take (0 + (4 + (List.length ([] ++ iL g.2) + 0))) (Value.int IntKind.u8
  (111 : Int) :: Value.int IntKind.u8 (114 : Int) :: Value.int IntKind.u8 (101 : Int) :: Value.int IntKind.u8 (32 : Int) :: List.map (fun b ↦ Value.int IntKind.u8
  (↑(UInt8.toNat b) : Int)) ([] ++ iL g.2)) ++ Value.int IntKind.u8 (32 : Int) :: List.map (fun b ↦ Value.int IntKind.u8 (↑(UInt8.toNat b) : Int)) ([] ++ iL g.4)))))
  ((((True /\ True) /\ (True /\ ((Plain (bCells (wordZ (bs g.6))) /\ True) /\ List.length (L (bs g.6)) <= 4000)))) /\ (br (decide (0 + List.length (wordZ (bs g.6)) * 1 <=
  List.length (bCells (wordZ (bs g.6))))) (br (allOne (List.take (List.length (wordZ (bs g.6)) * 1) (List.drop 0 (bCells (wordZ (bs g.6)))))) (br (decide (4 + List.length
  (32 :: ([] ++ iL g.2)) + List.length (32 :: ([] ++ iL g.4)) + 6 + List.length (wordZ (bs g.6)) <= 16777216)) (br (decide (0 < 4 + List.length (32 :: ([] ++ iL g.2)) +
  List.length (32 :: ([] ++ iL g.4)) + 6 + List.length (wordZ (bs g.6)) ∨ List.length (Value.int IntKind.u8 (109 : Int) :: (List.take (0 + (4 + List.length (32 :: ([] ++ iL
  g.2)) + (List.length ([] ++ iL g.4) + 0))) (List.take (0 + (4 + (List.length ([] ++ iL g.2) + 0))) (Value.int IntKind.u8 (111 : Int) :: Value.int IntKind.u8 (114 : Int) ::
  Value.int IntKind.u8 (101 : Int) :: Value.int IntKind.u8 (32 : Int) :: List.map (fun b ↦ Value.int IntKind.u8 (↑(UInt8.toNat b) : Int)) ([] ++ iL g.2)) ++ Value.int
  IntKind.u8 (32 : Int) :: List.map (fun b ↦ Value.int IntKind.u8 (↑(UInt8.toNat b) : Int)) ([] ++ iL g.4)) ++ [Value.int IntKind.u8 (32 : Int), Value.int IntKind.u8 (101 :
  Int), Value.int IntKind.u8 (110 : Int), Value.int IntKind.u8 (100 : Int), Value.int IntKind.u8 (32 : Int), Value.int IntKind.u8 (61 : Int)])) = 0)) (br (decide (0 + (4 +
  List.length (32 :: ([] ++ iL g.2)) + List.length (32 :: ([] ++ iL g.4)) + 6) * 1 <= List.length (Value.int IntKind.u8 (109 : Int) :: (List.take (0 + (4 + List.length (32
  :: ([] ++ iL g.2)) + (List.length ([] ++ iL g.4) + 0))) (List.take (0 + (4 + (List.length ([] ++ iL g.2) + 0))) (Value.int IntKind.u8 (111 : Int) :: Value.int IntKind.u8
  (114 : Int) :: Value.int IntKind.u8 (101 : Int) :: Value.int IntKind.u8 (32 : Int) :: List.map (fun b ↦ Value.int IntKind.u8 (↑(UInt8.toNat b) : Int)) ([] ++ iL g.2)) ++
  Value.int IntKind.u8 (32 : Int) :: List.map (fun b ↦ Value.int IntKind.u8 (↑(UInt8.toNat b) : Int)) ([] ++ iL g.4)) ++ [Value.int IntKind.u8 (32 : Int), Value.int
  IntKind.u8 (101 : Int), Value.int IntKind.u8 (110 : Int), Value.int IntKind.u8 (100 : Int), Value.int IntKind.u8 (32 : Int), Value.int IntKind.u8 (61 : Int)])))) (br
  (decide (0 + (4 + List.length (32 :: ([] ++ iL g.2)) + List.length (32 :: ([] ++ iL g.4)) + 6 + List.length (wordZ (bs g.6))) <= List.length (Value.int IntKind.u8 (109 :
  Int) :: (List.take (0 + (4 + List.length (32 :: ([] ++ iL g.2)) + List.length (32 :: ([] ++ iL g.4)) + 5)) (List.take (0 + (4 + List.length (32 :: ([] ++ iL g.2)) +
  (List.length ([] ++ iL g.4) + 0))) (List.take (0 + (4 + (List.length ([] ++ iL g.2) + 0))) (Value.int IntKind.u8 (111 : Int) :: Value.int IntKind.u8 (114 : Int) ::
  Value.int IntKind.u8 (101 : Int) :: Value.int IntKind.u8 (32 : Int) :: List.map (fun b ↦ Value.int IntKind.u8 (↑(UInt8.toNat b) : Int)) ([] ++ iL g.2)) ++ Value.int
  IntKind.u8 (32 : Int) :: List.map (fun b ↦ Value.int IntKind.u8 (↑(UInt8.toNat b) : Int)) ([] ++ iL g.4)) ++ [Value.int IntKind.u8 (32 : Int), Value.int IntKind.u8 (101 :
  Int), Value.int IntKind.u8 (110 : Int), Value.int IntKind.u8 (100 : Int), Value.int IntKind.u8 (32 : Int), Value.int IntKind.u8 (61 : Int)]) ++ List.take (List.length
  (wordZ (bs g.6)) * 1) (List.drop 0 (bCells (wordZ (bs g.6)))))))) ((AllB (List.take (4 + List.length (32 :: ([] ++ iL g.2)) + List.length (32 :: ([] ++ iL g.4)) + 6 +
  List.length (wordZ (bs g.6))) (Value.int IntKind.u8 (109 : Int) :: (List.take (0 + (4 + List.length (32 :: ([] ++ iL g.2)) + List.length (32 :: ([] ++ iL g.4)) + 5))
  (List.take (0 + (4 + List.length (32 :: ([] ++ iL g.2)) + (List.length ([] ++ iL g.4) + 0))) (List.take (0 + (4 + (List.length ([] ++ iL g.2) + 0))) (Value.int IntKind.u8
  (111 : Int) :: Value.int IntKind.u8 (114 : Int) :: Value.int IntKind.u8 (101 : Int) :: Value.int IntKind.u8 (32 : Int) :: List.map (fun b ↦ Value.int IntKind.u8
  (↑(UInt8.toNat b) : Int)) ([] ++ iL g.2)) ++ Value.int IntKind.u8 (32 : Int) :: List.map (fun b ↦ Value.int IntKind.u8 (↑(UInt8.toNat b) : Int)) ([] ++ iL g.4)) ++
  [Value.int IntKind.u8 (32 : Int), Value.int IntKind.u8 (101 : Int), Value.int IntKind.u8 (110 : Int), Value.int IntKind.u8 (100 : Int), Value.int IntKind.u8 (32 : Int),
  Value.int IntKind.u8 (61 : Int)]) ++ List.take (List.length (wordZ (bs g.6)) * 1) (List.drop 0 (bCells (wordZ (bs g.6)))))))) /\ ((v = ByteArray.mk (Array.mk (List.map bOf
  (List.take (4 + List.length (32 :: ([] ++ iL g.2)) + List.length (32 :: ([] ++ iL g.4)) + 6 + List.length (wordZ (bs g.6))) (Value.int IntKind.u8 (109 : Int) :: (List.take
  (0 + (4 + List.length (32 :: ([] ++ iL g.2)) + List.length (32 :: ([] ++ iL g.4)) + 5)) (List.take (0 + (4 + List.length (32 :: ([] ++ iL g.2)) + (List.length ([] ++ iL
  g.4) + 0))) (List.take (0 + (4 + (List.length ([] ++ iL g.2) + 0))) (Value.int IntKind.u8 (111 : Int) :: Value.int IntKind.u8 (114 : Int) :: Value.int IntKind.u8 (101 :
  Int) :: Value.int IntKind.u8 (32 : Int) :: List.map (fun b ↦ Value.int IntKind.u8 (↑(UInt8.toNat b) : Int)) ([] ++ iL g.2)) ++ Value.int IntKind.u8 (32 : Int) :: List.map
  (fun b ↦ Value.int IntKind.u8 (↑(UInt8.toNat b) : Int)) ([] ++ iL g.4)) ++ [Value.int IntKind.u8 (32 : Int), Value.int IntKind.u8 (101 : Int), Value.int IntKind.u8 (110 :
  Int), Value.int IntKind.u8 (100 : Int), Value.int IntKind.u8 (32 : Int), Value.int IntKind.u8 (61 : Int)]) ++ List.take (List.length (wordZ (bs g.6)) * 1) (List.drop 0
  (bCells (wordZ (bs g.6)))))))))) /\ ((Eq (α := List Value) (gC enR g.5) (gC enR g.5)) /\ ((Plain (gC enR g.5)) /\ True)))) False) False) (br (decide (0 + (4 + List.length
  (32 :: ([] ++ iL g.2)) + List.length (32 :: ([] ++ iL g.4)) + 6) <= List.length (Value.int IntKind.u8 (109 : Int) :: (List.take (0 + (4 + List.length (32 :: ([] ++ iL
  g.2)) + (List.length ([] ++ iL g.4) + 0))) (List.take (0 + (4 + (List.length ([] ++ iL g.2) + 0))) (Value.int IntKind.u8 (111 : Int) :: Value.int IntKind.u8 (114 : Int) ::
  Value.int IntKind.u8 (101 : Int) :: Value.int IntKind.u8 (32 : Int) :: List.map (fun b ↦ Value.int IntKind.u8 (↑(UInt8.toNat b) : Int)) ([] ++ iL g.2)) ++ Value.int
  IntKind.u8 (32 : Int) :: List.map (fun b ↦ Value.int IntKind.u8 (↑(UInt8.toNat b) : Int)) ([] ++ iL g.4)) ++ [Value.int IntKind.u8 (32 : Int), Value.int IntKind.u8 (101 :
  Int), Value.int IntKind.u8 (110 : Int), Value.int IntKind.u8 (100 : Int), Value.int IntKind.u8 (32 : Int), Value.int IntKind.u8 (61 : Int)])))) ((AllB (Value.int
  IntKind.u8 (109 : Int) :: List.take (4 + List.length (32 :: ([] ++ iL g.2)) + List.length (32 :: ([] ++ iL g.4)) + 5) (List.take (0 + (4 + List.length (32 :: ([] ++ iL
  g.2)) + (List.length ([] ++ iL g.4) + 0))) (List.take (0 + (4 + (List.length ([] ++ iL g.2) + 0))) (Value.int IntKind.u8 (111 : Int) :: Value.int IntKind.u8 (114 : Int) ::
  Value.int IntKind.u8 (101 : Int) :: Value.int IntKind.u8 (32 : Int) :: List.map (fun b ↦ Value.int IntKind.u8 (↑(UInt8.toNat b) : Int)) ([] ++ iL g.2)) ++ Value.int
  IntKind.u8 (32 : Int) :: List.map (fun b ↦ Value.int IntKind.u8 (↑(UInt8.toNat b) : Int)) ([] ++ iL g.4)) ++ [Value.int IntKind.u8 (32 : Int), Value.int IntKind.u8 (101 :
  Int), Value.int IntKind.u8 (110 : Int), Value.int IntKind.u8 (100 : Int), Value.int IntKind.u8 (32 : Int), Value.int IntKind.u8 (61 : Int)]))) /\ ((v = ByteArray.mk
  (Array.mk (bOf (Value.int IntKind.u8 (↑(UInt8.toNat 109) : Int)) :: List.map bOf (List.take (4 + List.length (32 :: ([] ++ iL g.2)) + List.length (32 :: ([] ++ iL g.4)) +
  5) (List.take (0 + (4 + List.length (32 :: ([] ++ iL g.2)) + (List.length ([] ++ iL g.4) + 0))) (List.take (0 + (4 + (List.length ([] ++ iL g.2) + 0))) (Value.int
  IntKind.u8 (111 : Int) :: Value.int IntKind.u8 (114 : Int) :: Value.int IntKind.u8 (101 : Int) :: Value.int IntKind.u8 (32 : Int) :: List.map (fun b ↦ Value.int IntKind.u8
  (↑(UInt8.toNat b) : Int)) ([] ++ iL g.2)) ++ Value.int IntKind.u8 (32 : Int) :: List.map (fun b ↦ Value.int IntKind.u8 (↑(UInt8.toNat b) : Int)) ([] ++ iL g.4)) ++
  [Value.int IntKind.u8 (32 : Int), Value.int IntKind.u8 (101 : Int), Value.int IntKind.u8 (110 : Int), Value.int IntKind.u8 (100 : Int), Value.int IntKind.u8 (32 : Int),
  Value.int IntKind.u8 (61 : Int)]))))) /\ ((Eq (α := List Value) (gC enR g.5) (gC enR g.5)) /\ ((Plain (gC enR g.5)) /\ True)))) False)) False) False) False)) False) False)
  (br (decide (4 + List.length (32 :: ([] ++ iL g.2)) + List.length (32 :: ([] ++ iL g.4)) + 5 <= 16777216)) (br (decide (0 + (4 + List.length (32 :: ([] ++ iL g.2)) +
  List.length (32 :: ([] ++ iL g.4))) * 1 <= List.length (Value.int IntKind.u8 (109 : Int) :: (List.take (0 + (4 + (List.length ([] ++ iL g.2) + 0))) (Value.int IntKind.u8
  (111 : Int) :: Value.int IntKind.u8 (114 : Int) :: Value.int IntKind.u8 (101 : Int) :: Value.int IntKind.u8 (32 : Int) :: List.map (fun b ↦ Value.int IntKind.u8
  (↑(UInt8.toNat b) : Int)) ([] ++ iL g.2)) ++ Value.int IntKind.u8 (32 : Int) :: List.map (fun b ↦ Value.int IntKind.u8 (↑(UInt8.toNat b) : Int)) ([] ++ iL g.4)))))
  ((((True /\ True) /\ (True /\ ((Plain (bCells (wordZ (bs g.6))) /\ True) /\ List.length (L (bs g.6)) <= 4000)))) /\ (br (decide (0 + List.length (wordZ (bs g.6)) * 1 <=
  List.length (bCells (wordZ (bs g.6))))) (br (allOne (List.take (List.length (wordZ (bs g.6)) * 1) (List.drop 0 (bCells (wordZ (bs g.6)))))) (br (decide (4 + List.length
  (32 :: ([] ++ iL g.2)) + List.length (32 :: ([] ++ iL g.4)) + 5 + List.length (wordZ (bs g.6)) <= 16777216)) (br (decide (0 < 4 + List.length (32 :: ([] ++ iL g.2)) +
  List.length (32 :: ([] ++ iL g.4)) + 5 + List.length (wordZ (bs g.6)) ∨ List.length (Value.int IntKind.u8 (109 : Int) :: (List.take (0 + (4 + List.length (32 :: ([] ++ iL
  g.2)) + (List.length ([] ++ iL g.4) + 0))) (List.take (0 + (4 + (List.length ([] ++ iL g.2) + 0))) (Value.int IntKind.u8 (111 : Int) :: Value.int IntKind.u8 (114 : Int) ::
  Value.int IntKind.u8 (101 : Int) :: Value.int IntKind.u8 (32 : Int) :: List.map (fun b ↦ Value.int IntKind.u8 (↑(UInt8.toNat b) : Int)) ([] ++ iL g.2)) ++ Value.int
  IntKind.u8 (32 : Int) :: List.map (fun b ↦ Value.int IntKind.u8 (↑(UInt8.toNat b) : Int)) ([] ++ iL g.4)) ++ [Value.int IntKind.u8 (32 : Int), Value.int IntKind.u8 (111 :
  Int), Value.int IntKind.u8 (110 : Int), Value.int IntKind.u8 (32 : Int), Value.int IntKind.u8 (61 : Int)])) = 0)) (br (decide (0 + (4 + List.length (32 :: ([] ++ iL g.2))
  + List.length (32 :: ([] ++ iL g.4)) + 5) * 1 <= List.length (Value.int IntKind.u8 (109 : Int) :: (List.take (0 + (4 + List.length (32 :: ([] ++ iL g.2)) + (List.length
  ([] ++ iL g.4) + 0))) (List.take (0 + (4 + (List.length ([] ++ iL g.2) + 0))) (Value.int IntKind.u8 (111 : Int) :: Value.int IntKind.u8 (114 : Int) :: Value.int IntKind.u8
  (101 : Int) :: Value.int IntKind.u8 (32 : Int) :: List.map (fun b ↦ Value.int IntKind.u8 (↑(UInt8.toNat b) : Int)) ([] ++ iL g.2)) ++ Value.int IntKind.u8 (32 : Int) ::
  List.map (fun b ↦ Value.int IntKind.u8 (↑(UInt8.toNat b) : Int)) ([] ++ iL g.4)) ++ [Value.int IntKind.u8 (32 : Int), Value.int IntKind.u8 (111 : Int), Value.int
  IntKind.u8 (110 : Int), Value.int IntKind.u8 (32 : Int), Value.int IntKind.u8 (61 : Int)])))) (br (decide (0 + (4 + List.length (32 :: ([] ++ iL g.2)) + List.length (32 ::
  ([] ++ iL g.4)) + 5 + List.length (wordZ (bs g.6))) <= List.length (Value.int IntKind.u8 (109 : Int) :: (List.take (0 + (4 + List.length (32 :: ([] ++ iL g.2)) +
  List.length (32 :: ([] ++ iL g.4)) + 4)) (List.take (0 + (4 + List.length (32 :: ([] ++ iL g.2)) + (List.length ([] ++ iL g.4) + 0))) (List.take (0 + (4 + (List.length ([]
  ++ iL g.2) + 0))) (Value.int IntKind.u8 (111 : Int) :: Value.int IntKind.u8 (114 : Int) :: Value.int IntKind.u8 (101 : Int) :: Value.int IntKind.u8 (32 : Int) :: List.map
  (fun b ↦ Value.int IntKind.u8 (↑(UInt8.toNat b) : Int)) ([] ++ iL g.2)) ++ Value.int IntKind.u8 (32 : Int) :: List.map (fun b ↦ Value.int IntKind.u8 (↑(UInt8.toNat b) :
  Int)) ([] ++ iL g.4)) ++ [Value.int IntKind.u8 (32 : Int), Value.int IntKind.u8 (111 : Int), Value.int IntKind.u8 (110 : Int), Value.int IntKind.u8 (32 : Int), Value.int
  IntKind.u8 (61 : Int)]) ++ List.take (List.length (wordZ (bs g.6)) * 1) (List.drop 0 (bCells (wordZ (bs g.6)))))))) ((AllB (List.take (4 + List.length (32 :: ([] ++ iL
  g.2)) + List.length (32 :: ([] ++ iL g.4)) + 5 + List.length (wordZ (bs g.6))) (Value.int IntKind.u8 (109 : Int) :: (List.take (0 + (4 + List.length (32 :: ([] ++ iL g.2))
  + List.length (32 :: ([] ++ iL g.4)) + 4)) (List.take (0 + (4 + List.length (32 :: ([] ++ iL g.2)) + (List.length ([] ++ iL g.4) + 0))) (List.take (0 + (4 + (List.length
  ([] ++ iL g.2) + 0))) (Value.int IntKind.u8 (111 : Int) :: Value.int IntKind.u8 (114 : Int) :: Value.int IntKind.u8 (101 : Int) :: Value.int IntKind.u8 (32 : Int) ::
  List.map (fun b ↦ Value.int IntKind.u8 (↑(UInt8.toNat b) : Int)) ([] ++ iL g.2)) ++ Value.int IntKind.u8 (32 : Int) :: List.map (fun b ↦ Value.int IntKind.u8
  (↑(UInt8.toNat b) : Int)) ([] ++ iL g.4)) ++ [Value.int IntKind.u8 (32 : Int), Value.int IntKind.u8 (111 : Int), Value.int IntKind.u8 (110 : Int), Value.int IntKind.u8 (32
  : Int), Value.int IntKind.u8 (61 : Int)]) ++ List.take (List.length (wordZ (bs g.6)) * 1) (List.drop 0 (bCells (wordZ (bs g.6)))))))) /\ ((v = ByteArray.mk (Array.mk
  (List.map bOf (List.take (4 + List.length (32 :: ([] ++ iL g.2)) + List.length (32 :: ([] ++ iL g.4)) + 5 + List.length (wordZ (bs g.6))) (Value.int IntKind.u8 (109 : Int)
  :: (List.take (0 + (4 + List.length (32 :: ([] ++ iL g.2)) + List.length (32 :: ([] ++ iL g.4)) + 4)) (List.take (0 + (4 + List.length (32 :: ([] ++ iL g.2)) +
  (List.length ([] ++ iL g.4) + 0))) (List.take (0 + (4 + (List.length ([] ++ iL g.2) + 0))) (Value.int IntKind.u8 (111 : Int) :: Value.int IntKind.u8 (114 : Int) ::
  Value.int IntKind.u8 (101 : Int) :: Value.int IntKind.u8 (32 : Int) :: List.map (fun b ↦ Value.int IntKind.u8 (↑(UInt8.toNat b) : Int)) ([] ++ iL g.2)) ++ Value.int
  IntKind.u8 (32 : Int) :: List.map (fun b ↦ Value.int IntKind.u8 (↑(UInt8.toNat b) : Int)) ([] ++ iL g.4)) ++ [Value.int IntKind.u8 (32 : Int), Value.int IntKind.u8 (111 :
  Int), Value.int IntKind.u8 (110 : Int), Value.int IntKind.u8 (32 : Int), Value.int IntKind.u8 (61 : Int)]) ++ List.take (List.length (wordZ (bs g.6)) * 1) (List.drop 0
  (bCells (wordZ (bs g.6)))))))))) /\ ((Eq (α := List Value) (gC enR g.5) (gC enR g.5)) /\ ((Plain (gC enR g.5)) /\ True)))) False) False) (br (decide (0 + (4 + List.length
  (32 :: ([] ++ iL g.2)) + List.length (32 :: ([] ++ iL g.4)) + 5) <= List.length (Value.int IntKind.u8 (109 : Int) :: (List.take (0 + (4 + List.length (32 :: ([] ++ iL
  g.2)) + (List.length ([] ++ iL g.4) + 0))) (List.take (0 + (4 + (List.length ([] ++ iL g.2) + 0))) (Value.int IntKind.u8 (111 : Int) :: Value.int IntKind.u8 (114 : Int) ::
  Value.int IntKind.u8 (101 : Int) :: Value.int IntKind.u8 (32 : Int) :: List.map (fun b ↦ Value.int IntKind.u8 (↑(UInt8.toNat b) : Int)) ([] ++ iL g.2)) ++ Value.int
  IntKind.u8 (32 : Int) :: List.map (fun b ↦ Value.int IntKind.u8 (↑(UInt8.toNat b) : Int)) ([] ++ iL g.4)) ++ [Value.int IntKind.u8 (32 : Int), Value.int IntKind.u8 (111 :
  Int), Value.int IntKind.u8 (110 : Int), Value.int IntKind.u8 (32 : Int), Value.int IntKind.u8 (61 : Int)])))) ((AllB (Value.int IntKind.u8 (109 : Int) :: List.take (4 +
  List.length (32 :: ([] ++ iL g.2)) + List.length (32 :: ([] ++ iL g.4)) + 4) (List.take (0 + (4 + List.length (32 :: ([] ++ iL g.2)) + (List.length ([] ++ iL g.4) + 0)))
  (List.take (0 + (4 + (List.length ([] ++ iL g.2) + 0))) (Value.int IntKind.u8 (111 : Int) :: Value.int IntKind.u8 (114 : Int) :: Value.int IntKind.u8 (101 : Int) ::
  Value.int IntKind.u8 (32 : Int) :: List.map (fun b ↦ Value.int IntKind.u8 (↑(UInt8.toNat b) : Int)) ([] ++ iL g.2)) ++ Value.int IntKind.u8 (32 : Int) :: List.map (fun b ↦
  Value.int IntKind.u8 (↑(UInt8.toNat b) : Int)) ([] ++ iL g.4)) ++ [Value.int IntKind.u8 (32 : Int), Value.int IntKind.u8 (111 : Int), Value.int IntKind.u8 (110 : Int),
  Value.int IntKind.u8 (32 : Int), Value.int IntKind.u8 (61 : Int)]))) /\ ((v = ByteArray.mk (Array.mk (bOf (Value.int IntKind.u8 (↑(UInt8.toNat 109) : Int)) :: List.map bOf
  (List.take (4 + List.length (32 :: ([] ++ iL g.2)) + List.length (32 :: ([] ++ iL g.4)) + 4) (List.take (0 + (4 + List.length (32 :: ([] ++ iL g.2)) + (List.length ([] ++
  iL g.4) + 0))) (List.take (0 + (4 + (List.length ([] ++ iL g.2) + 0))) (Value.int IntKind.u8 (111 : Int) :: Value.int IntKind.u8 (114 : Int) :: Value.int IntKind.u8 (101 :
  Int) :: Value.int IntKind.u8 (32 : Int) :: List.map (fun b ↦ Value.int IntKind.u8 (↑(UInt8.toNat b) : Int)) ([] ++ iL g.2)) ++ Value.int IntKind.u8 (32 : Int) :: List.map
  (fun b ↦ Value.int IntKind.u8 (↑(UInt8.toNat b) : Int)) ([] ++ iL g.4)) ++ [Value.int IntKind.u8 (32 : Int), Value.int IntKind.u8 (111 : Int), Value.int IntKind.u8 (110 :
  Int), Value.int IntKind.u8 (32 : Int), Value.int IntKind.u8 (61 : Int)]))))) /\ ((Eq (α := List Value) (gC enR g.5) (gC enR g.5)) /\ ((Plain (gC enR g.5)) /\ True))))
  False)) False) False) False)) False) False)) False) False) False) False)) False) False) False)) := by kernel_rfl
theorem Li8_vc (g : GS) (v : ByteArray) : mcall EtLi noM 200 6 [.agg ⟨stpC { g with k := 8 }⟩] ⟨mkR (nums 0 [gRo enR g.l]), 1⟩ (retIs 1 (.string v) [gRo enR g.l]) =
  ((((True /\ True) /\ (True /\ (True /\ I64 g.2)))) /\ (br (decide (1 + List.length (iL g.2) <= 9223372036854775807)) (br (allOne (Value.int IntKind.u8 (32 : Int) ::
  List.map (fun b ↦ Value.int IntKind.u8 (↑(UInt8.toNat b) : Int)) ([] ++ iL g.2))) (br (decide (5 + List.length (32 :: ([] ++ iL g.2)) <= 16777216)) ((((True /\ True) /\
  (True /\ (True /\ I64 g.4)))) /\ (br (decide (1 + List.length (iL g.4) <= 9223372036854775807)) (br (allOne (Value.int IntKind.u8 (32 : Int) :: List.map (fun b ↦ Value.int
  IntKind.u8 (↑(UInt8.toNat b) : Int)) ([] ++ iL g.4))) (br (decide (5 + List.length (32 :: ([] ++ iL g.2)) + List.length (32 :: ([] ++ iL g.4)) <= 16777216)) (br (decide (0
  + (5 + List.length (32 :: ([] ++ iL g.2))) * 1 <= List.length (Value.int IntKind.u8 (98 : Int) :: Value.int IntKind.u8 (114 : Int) :: Value.int IntKind.u8 (101 : Int) ::
  Value.int IntKind.u8 (97 : Int) :: Value.int IntKind.u8 (107 : Int) :: Value.int IntKind.u8 (32 : Int) :: List.map (fun b ↦ Value.int IntKind.u8 (↑(UInt8.toNat b) : Int))
  ([] ++ iL g.2)))) (br (decide (0 + (5 + List.length (32 :: ([] ++ iL g.2)) + List.length (32 :: ([] ++ iL g.4))) <= List.length (Value.int IntKind.u8 (98 : Int) ::
  (List.take (0 + (5 + (List.length ([] ++ iL g.2) + 0))) (Value.int IntKind.u8 (114 : Int) :: Value.int IntKind.u8 (101 : Int) :: Value.int IntKind.u8 (97 : Int) ::
  Value.int IntKind.u8 (107 : Int) :: Value.int IntKind.u8 (32 : Int) :: List.map (fun b ↦ Value.int IntKind.u8 (↑(UInt8.toNat b) : Int)) ([] ++ iL g.2)) ++ Value.int
  IntKind.u8 (32 : Int) :: List.map (fun b ↦ Value.int IntKind.u8 (↑(UInt8.toNat b) : Int)) ([] ++ iL g.4))))) ((AllB (Value.int IntKind.u8 (98 : Int) :: List.take (5 +
  List.length (32 :: ([] ++ iL g.2)) + (List.length ([] ++ iL g.4) + 0)) (List.take (0 + (5 + (List.length ([] ++ iL g.2) + 0))) (Value.int IntKind.u8 (114 : Int) ::
  Value.int IntKind.u8 (101 : Int) :: Value.int IntKind.u8 (97 : Int) :: Value.int IntKind.u8 (107 : Int) :: Value.int IntKind.u8 (32 : Int) :: List.map (fun b ↦ Value.int
  IntKind.u8 (↑(UInt8.toNat b) : Int)) ([] ++ iL g.2)) ++ Value.int IntKind.u8 (32 : Int) :: List.map (fun b ↦ Value.int IntKind.u8 (↑(UInt8.toNat b) : Int)) ([] ++ iL
  g.4)))) /\ ((v = ByteArray.mk (Array.mk (bOf (Value.int IntKind.u8 (↑(UInt8.toNat 98) : Int)) :: List.map bOf (List.take (5 + List.length (32 :: ([] ++ iL g.2)) +
  (List.length ([] ++ iL g.4) + 0)) (List.take (0 + (5 + (List.length ([] ++ iL g.2) + 0))) (Value.int IntKind.u8 (114 : Int) :: Value.int IntKind.u8 (101 : Int) ::
  Value.int IntKind.u8 (97 : Int) :: Value.int IntKind.u8 (107 : Int) :: Value.int IntKind.u8 (32 : Int) :: List.map (fun b ↦ Value.int IntKind.u8 (↑(UInt8.toNat b) : Int))
  ([] ++ iL g.2)) ++ Value.int IntKind.u8 (32 : Int) :: List.map (fun b ↦ Value.int IntKind.u8 (↑(UInt8.toNat b) : Int)) ([] ++ iL g.4)))))) /\ ((Eq (α := List Value) (gC
  enR g.5) (gC enR g.5)) /\ ((Plain (gC enR g.5)) /\ True)))) False) False) False) False) False)) False) False) False)) := by kernel_rfl
theorem Li9_vc (g : GS) (v : ByteArray) : mcall EtLi noM 200 6 [.agg ⟨stpC { g with k := 9 }⟩] ⟨mkR (nums 0 [gRo enR g.l]), 1⟩ (retIs 1 (.string v) [gRo enR g.l]) =
  ((((True /\ True) /\ (True /\ (True /\ I64 g.2)))) /\ (br (decide (1 + List.length (iL g.2) <= 9223372036854775807)) (br (allOne (Value.int IntKind.u8 (32 : Int) ::
  List.map (fun b ↦ Value.int IntKind.u8 (↑(UInt8.toNat b) : Int)) ([] ++ iL g.2))) (br (decide (3 + List.length (32 :: ([] ++ iL g.2)) <= 16777216)) (br (decide (0 + (3 +
  List.length (32 :: ([] ++ iL g.2))) <= List.length (Value.int IntKind.u8 (99 : Int) :: Value.int IntKind.u8 (117 : Int) :: Value.int IntKind.u8 (116 : Int) :: Value.int
  IntKind.u8 (32 : Int) :: List.map (fun b ↦ Value.int IntKind.u8 (↑(UInt8.toNat b) : Int)) ([] ++ iL g.2)))) ((AllB (Value.int IntKind.u8 (99 : Int) :: List.take (3 +
  (List.length ([] ++ iL g.2) + 0)) (Value.int IntKind.u8 (117 : Int) :: Value.int IntKind.u8 (116 : Int) :: Value.int IntKind.u8 (32 : Int) :: List.map (fun b ↦ Value.int
  IntKind.u8 (↑(UInt8.toNat b) : Int)) ([] ++ iL g.2)))) /\ ((v = ByteArray.mk (Array.mk (bOf (Value.int IntKind.u8 (↑(UInt8.toNat 99) : Int)) :: List.map bOf (List.take (3
  + (List.length ([] ++ iL g.2) + 0)) (Value.int IntKind.u8 (117 : Int) :: Value.int IntKind.u8 (116 : Int) :: Value.int IntKind.u8 (32 : Int) :: List.map (fun b ↦ Value.int
  IntKind.u8 (↑(UInt8.toNat b) : Int)) ([] ++ iL g.2)))))) /\ ((Eq (α := List Value) (gC enR g.5) (gC enR g.5)) /\ ((Plain (gC enR g.5)) /\ True)))) False) False) False)
  False)) := by kernel_rfl
theorem Li10_vc (g : GS) (v : ByteArray) : mcall EtLi noM 200 6 [.agg ⟨stpC { g with k := 10 }⟩] ⟨mkR (nums 0 [gRo enR g.l]), 1⟩ (retIs 1 (.string v) [gRo enR g.l]) =
  ((((True /\ True) /\ (True /\ (True /\ I64 g.2)))) /\ (br (decide (1 + List.length (iL g.2) <= 9223372036854775807)) (br (allOne (Value.int IntKind.u8 (32 : Int) ::
  List.map (fun b ↦ Value.int IntKind.u8 (↑(UInt8.toNat b) : Int)) ([] ++ iL g.2))) (br (decide (4 + List.length (32 :: ([] ++ iL g.2)) <= 16777216)) ((((True /\ True) /\
  (True /\ (True /\ I64 g.3)))) /\ (br (decide (1 + List.length (iL g.3) <= 9223372036854775807)) (br (allOne (Value.int IntKind.u8 (32 : Int) :: List.map (fun b ↦ Value.int
  IntKind.u8 (↑(UInt8.toNat b) : Int)) ([] ++ iL g.3))) (br (decide (4 + List.length (32 :: ([] ++ iL g.2)) + List.length (32 :: ([] ++ iL g.3)) <= 16777216)) (br (decide (0
  + (4 + List.length (32 :: ([] ++ iL g.2))) * 1 <= List.length (Value.int IntKind.u8 (115 : Int) :: Value.int IntKind.u8 (101 : Int) :: Value.int IntKind.u8 (110 : Int) ::
  Value.int IntKind.u8 (100 : Int) :: Value.int IntKind.u8 (32 : Int) :: List.map (fun b ↦ Value.int IntKind.u8 (↑(UInt8.toNat b) : Int)) ([] ++ iL g.2)))) (br (decide (0 +
  (4 + List.length (32 :: ([] ++ iL g.2)) + List.length (32 :: ([] ++ iL g.3))) <= List.length (Value.int IntKind.u8 (115 : Int) :: (List.take (0 + (4 + (List.length ([] ++
  iL g.2) + 0))) (Value.int IntKind.u8 (101 : Int) :: Value.int IntKind.u8 (110 : Int) :: Value.int IntKind.u8 (100 : Int) :: Value.int IntKind.u8 (32 : Int) :: List.map
  (fun b ↦ Value.int IntKind.u8 (↑(UInt8.toNat b) : Int)) ([] ++ iL g.2)) ++ Value.int IntKind.u8 (32 : Int) :: List.map (fun b ↦ Value.int IntKind.u8 (↑(UInt8.toNat b) :
  Int)) ([] ++ iL g.3))))) ((AllB (Value.int IntKind.u8 (115 : Int) :: List.take (4 + List.length (32 :: ([] ++ iL g.2)) + (List.length ([] ++ iL g.3) + 0)) (List.take (0 +
  (4 + (List.length ([] ++ iL g.2) + 0))) (Value.int IntKind.u8 (101 : Int) :: Value.int IntKind.u8 (110 : Int) :: Value.int IntKind.u8 (100 : Int) :: Value.int IntKind.u8
  (32 : Int) :: List.map (fun b ↦ Value.int IntKind.u8 (↑(UInt8.toNat b) : Int)) ([] ++ iL g.2)) ++ Value.int IntKind.u8 (32 : Int) :: List.map (fun b ↦ Value.int IntKind.u8
  (↑(UInt8.toNat b) : Int)) ([] ++ iL g.3)))) /\ ((v = ByteArray.mk (Array.mk (bOf (Value.int IntKind.u8 (↑(UInt8.toNat 115) : Int)) :: List.map bOf (List.take (4 +
  List.length (32 :: ([] ++ iL g.2)) + (List.length ([] ++ iL g.3) + 0)) (List.take (0 + (4 + (List.length ([] ++ iL g.2) + 0))) (Value.int IntKind.u8 (101 : Int) ::
  Value.int IntKind.u8 (110 : Int) :: Value.int IntKind.u8 (100 : Int) :: Value.int IntKind.u8 (32 : Int) :: List.map (fun b ↦ Value.int IntKind.u8 (↑(UInt8.toNat b) : Int))
  ([] ++ iL g.2)) ++ Value.int IntKind.u8 (32 : Int) :: List.map (fun b ↦ Value.int IntKind.u8 (↑(UInt8.toNat b) : Int)) ([] ++ iL g.3)))))) /\ ((Eq (α := List Value) (gC
  enR g.5) (gC enR g.5)) /\ ((Plain (gC enR g.5)) /\ True)))) False) False) False) False) False)) False) False) False)) := by kernel_rfl
theorem Li11_vc (g : GS) (v : ByteArray) : mcall EtLi noM 200 6 [.agg ⟨stpC { g with k := 11 }⟩] ⟨mkR (nums 0 [gRo enR g.l]), 1⟩ (retIs 1 (.string v) [gRo enR g.l]) =
  ((((True /\ True) /\ (True /\ (True /\ I64 g.2)))) /\ (br (decide (1 + List.length (iL g.2) <= 9223372036854775807)) (br (allOne (Value.int IntKind.u8 (32 : Int) ::
  List.map (fun b ↦ Value.int IntKind.u8 (↑(UInt8.toNat b) : Int)) ([] ++ iL g.2))) (br (decide (4 + List.length (32 :: ([] ++ iL g.2)) <= 16777216)) ((((True /\ True) /\
  (True /\ (True /\ I64 g.3)))) /\ (br (decide (1 + List.length (iL g.3) <= 9223372036854775807)) (br (allOne (Value.int IntKind.u8 (32 : Int) :: List.map (fun b ↦ Value.int
  IntKind.u8 (↑(UInt8.toNat b) : Int)) ([] ++ iL g.3))) (br (decide (4 + List.length (32 :: ([] ++ iL g.2)) + List.length (32 :: ([] ++ iL g.3)) <= 16777216)) (br (decide (0
  + (4 + List.length (32 :: ([] ++ iL g.2))) * 1 <= List.length (Value.int IntKind.u8 (104 : Int) :: Value.int IntKind.u8 (101 : Int) :: Value.int IntKind.u8 (97 : Int) ::
  Value.int IntKind.u8 (114 : Int) :: Value.int IntKind.u8 (32 : Int) :: List.map (fun b ↦ Value.int IntKind.u8 (↑(UInt8.toNat b) : Int)) ([] ++ iL g.2)))) (br (decide (0 +
  (4 + List.length (32 :: ([] ++ iL g.2)) + List.length (32 :: ([] ++ iL g.3))) <= List.length (Value.int IntKind.u8 (104 : Int) :: (List.take (0 + (4 + (List.length ([] ++
  iL g.2) + 0))) (Value.int IntKind.u8 (101 : Int) :: Value.int IntKind.u8 (97 : Int) :: Value.int IntKind.u8 (114 : Int) :: Value.int IntKind.u8 (32 : Int) :: List.map (fun
  b ↦ Value.int IntKind.u8 (↑(UInt8.toNat b) : Int)) ([] ++ iL g.2)) ++ Value.int IntKind.u8 (32 : Int) :: List.map (fun b ↦ Value.int IntKind.u8 (↑(UInt8.toNat b) : Int))
  ([] ++ iL g.3))))) ((AllB (Value.int IntKind.u8 (104 : Int) :: List.take (4 + List.length (32 :: ([] ++ iL g.2)) + (List.length ([] ++ iL g.3) + 0)) (List.take (0 + (4 +
  (List.length ([] ++ iL g.2) + 0))) (Value.int IntKind.u8 (101 : Int) :: Value.int IntKind.u8 (97 : Int) :: Value.int IntKind.u8 (114 : Int) :: Value.int IntKind.u8 (32 :
  Int) :: List.map (fun b ↦ Value.int IntKind.u8 (↑(UInt8.toNat b) : Int)) ([] ++ iL g.2)) ++ Value.int IntKind.u8 (32 : Int) :: List.map (fun b ↦ Value.int IntKind.u8
  (↑(UInt8.toNat b) : Int)) ([] ++ iL g.3)))) /\ ((v = ByteArray.mk (Array.mk (bOf (Value.int IntKind.u8 (↑(UInt8.toNat 104) : Int)) :: List.map bOf (List.take (4 +
  List.length (32 :: ([] ++ iL g.2)) + (List.length ([] ++ iL g.3) + 0)) (List.take (0 + (4 + (List.length ([] ++ iL g.2) + 0))) (Value.int IntKind.u8 (101 : Int) ::
  Value.int IntKind.u8 (97 : Int) :: Value.int IntKind.u8 (114 : Int) :: Value.int IntKind.u8 (32 : Int) :: List.map (fun b ↦ Value.int IntKind.u8 (↑(UInt8.toNat b) : Int))
  ([] ++ iL g.2)) ++ Value.int IntKind.u8 (32 : Int) :: List.map (fun b ↦ Value.int IntKind.u8 (↑(UInt8.toNat b) : Int)) ([] ++ iL g.3)))))) /\ ((Eq (α := List Value) (gC
  enR g.5) (gC enR g.5)) /\ ((Plain (gC enR g.5)) /\ True)))) False) False) False) False) False)) False) False) False)) := by kernel_rfl
theorem Li12_vc (g : GS) (v : ByteArray) : mcall EtLi noM 200 6 [.agg ⟨stpC { g with k := 12 }⟩] ⟨mkR (nums 0 [gRo enR g.l]), 1⟩ (retIs 1 (.string v) [gRo enR g.l]) =
  ((((True /\ True) /\ (True /\ (True /\ I64 g.2)))) /\ (br (decide (1 + List.length (iL g.2) <= 9223372036854775807)) (br (allOne (Value.int IntKind.u8 (32 : Int) ::
  List.map (fun b ↦ Value.int IntKind.u8 (↑(UInt8.toNat b) : Int)) ([] ++ iL g.2))) (br (decide (4 + List.length (32 :: ([] ++ iL g.2)) <= 16777216)) ((((True /\ True) /\
  (True /\ (True /\ I64 g.3)))) /\ (br (decide (1 + List.length (iL g.3) <= 9223372036854775807)) (br (allOne (Value.int IntKind.u8 (32 : Int) :: List.map (fun b ↦ Value.int
  IntKind.u8 (↑(UInt8.toNat b) : Int)) ([] ++ iL g.3))) (br (decide (4 + List.length (32 :: ([] ++ iL g.2)) + List.length (32 :: ([] ++ iL g.3)) <= 16777216)) (br (decide (0
  + (4 + List.length (32 :: ([] ++ iL g.2))) * 1 <= List.length (Value.int IntKind.u8 (112 : Int) :: Value.int IntKind.u8 (97 : Int) :: Value.int IntKind.u8 (115 : Int) ::
  Value.int IntKind.u8 (115 : Int) :: Value.int IntKind.u8 (32 : Int) :: List.map (fun b ↦ Value.int IntKind.u8 (↑(UInt8.toNat b) : Int)) ([] ++ iL g.2)))) (br (decide (0 +
  (4 + List.length (32 :: ([] ++ iL g.2)) + List.length (32 :: ([] ++ iL g.3))) <= List.length (Value.int IntKind.u8 (112 : Int) :: (List.take (0 + (4 + (List.length ([] ++
  iL g.2) + 0))) (Value.int IntKind.u8 (97 : Int) :: Value.int IntKind.u8 (115 : Int) :: Value.int IntKind.u8 (115 : Int) :: Value.int IntKind.u8 (32 : Int) :: List.map (fun
  b ↦ Value.int IntKind.u8 (↑(UInt8.toNat b) : Int)) ([] ++ iL g.2)) ++ Value.int IntKind.u8 (32 : Int) :: List.map (fun b ↦ Value.int IntKind.u8 (↑(UInt8.toNat b) : Int))
  ([] ++ iL g.3))))) ((AllB (Value.int IntKind.u8 (112 : Int) :: List.take (4 + List.length (32 :: ([] ++ iL g.2)) + (List.length ([] ++ iL g.3) + 0)) (List.take (0 + (4 +
  (List.length ([] ++ iL g.2) + 0))) (Value.int IntKind.u8 (97 : Int) :: Value.int IntKind.u8 (115 : Int) :: Value.int IntKind.u8 (115 : Int) :: Value.int IntKind.u8 (32 :
  Int) :: List.map (fun b ↦ Value.int IntKind.u8 (↑(UInt8.toNat b) : Int)) ([] ++ iL g.2)) ++ Value.int IntKind.u8 (32 : Int) :: List.map (fun b ↦ Value.int IntKind.u8
  (↑(UInt8.toNat b) : Int)) ([] ++ iL g.3)))) /\ ((v = ByteArray.mk (Array.mk (bOf (Value.int IntKind.u8 (↑(UInt8.toNat 112) : Int)) :: List.map bOf (List.take (4 +
  List.length (32 :: ([] ++ iL g.2)) + (List.length ([] ++ iL g.3) + 0)) (List.take (0 + (4 + (List.length ([] ++ iL g.2) + 0))) (Value.int IntKind.u8 (97 : Int) ::
  Value.int IntKind.u8 (115 : Int) :: Value.int IntKind.u8 (115 : Int) :: Value.int IntKind.u8 (32 : Int) :: List.map (fun b ↦ Value.int IntKind.u8 (↑(UInt8.toNat b) : Int))
  ([] ++ iL g.2)) ++ Value.int IntKind.u8 (32 : Int) :: List.map (fun b ↦ Value.int IntKind.u8 (↑(UInt8.toNat b) : Int)) ([] ++ iL g.3)))))) /\ ((Eq (α := List Value) (gC
  enR g.5) (gC enR g.5)) /\ ((Plain (gC enR g.5)) /\ True)))) False) False) False) False) False)) False) False) False)) := by kernel_rfl
theorem Li13_vc (g : GS) (v : ByteArray) : mcall EtLi noM 200 6 [.agg ⟨stpC { g with k := 13 }⟩] ⟨mkR (nums 0 [gRo enR g.l]), 1⟩ (retIs 1 (.string v) [gRo enR g.l]) =
  ((((True /\ True) /\ (True /\ (True /\ I64 g.2)))) /\ (br (decide (1 + List.length (iL g.2) <= 9223372036854775807)) (br (allOne (Value.int IntKind.u8 (32 : Int) ::
  List.map (fun b ↦ Value.int IntKind.u8 (↑(UInt8.toNat b) : Int)) ([] ++ iL g.2))) (br (decide (5 + List.length (32 :: ([] ++ iL g.2)) <= 16777216)) ((((True /\ True) /\
  (True /\ (True /\ I64 g.3)))) /\ (br (decide (1 + List.length (iL g.3) <= 9223372036854775807)) (br (allOne (Value.int IntKind.u8 (32 : Int) :: List.map (fun b ↦ Value.int
  IntKind.u8 (↑(UInt8.toNat b) : Int)) ([] ++ iL g.3))) (br (decide (5 + List.length (32 :: ([] ++ iL g.2)) + List.length (32 :: ([] ++ iL g.3)) <= 16777216)) (br (decide (0
  + (5 + List.length (32 :: ([] ++ iL g.2))) * 1 <= List.length (Value.int IntKind.u8 (114 : Int) :: Value.int IntKind.u8 (101 : Int) :: Value.int IntKind.u8 (112 : Int) ::
  Value.int IntKind.u8 (108 : Int) :: Value.int IntKind.u8 (121 : Int) :: Value.int IntKind.u8 (32 : Int) :: List.map (fun b ↦ Value.int IntKind.u8 (↑(UInt8.toNat b) : Int))
  ([] ++ iL g.2)))) (br (decide (0 + (5 + List.length (32 :: ([] ++ iL g.2)) + List.length (32 :: ([] ++ iL g.3))) <= List.length (Value.int IntKind.u8 (114 : Int) ::
  (List.take (0 + (5 + (List.length ([] ++ iL g.2) + 0))) (Value.int IntKind.u8 (101 : Int) :: Value.int IntKind.u8 (112 : Int) :: Value.int IntKind.u8 (108 : Int) ::
  Value.int IntKind.u8 (121 : Int) :: Value.int IntKind.u8 (32 : Int) :: List.map (fun b ↦ Value.int IntKind.u8 (↑(UInt8.toNat b) : Int)) ([] ++ iL g.2)) ++ Value.int
  IntKind.u8 (32 : Int) :: List.map (fun b ↦ Value.int IntKind.u8 (↑(UInt8.toNat b) : Int)) ([] ++ iL g.3))))) ((AllB (Value.int IntKind.u8 (114 : Int) :: List.take (5 +
  List.length (32 :: ([] ++ iL g.2)) + (List.length ([] ++ iL g.3) + 0)) (List.take (0 + (5 + (List.length ([] ++ iL g.2) + 0))) (Value.int IntKind.u8 (101 : Int) ::
  Value.int IntKind.u8 (112 : Int) :: Value.int IntKind.u8 (108 : Int) :: Value.int IntKind.u8 (121 : Int) :: Value.int IntKind.u8 (32 : Int) :: List.map (fun b ↦ Value.int
  IntKind.u8 (↑(UInt8.toNat b) : Int)) ([] ++ iL g.2)) ++ Value.int IntKind.u8 (32 : Int) :: List.map (fun b ↦ Value.int IntKind.u8 (↑(UInt8.toNat b) : Int)) ([] ++ iL
  g.3)))) /\ ((v = ByteArray.mk (Array.mk (bOf (Value.int IntKind.u8 (↑(UInt8.toNat 114) : Int)) :: List.map bOf (List.take (5 + List.length (32 :: ([] ++ iL g.2)) +
  (List.length ([] ++ iL g.3) + 0)) (List.take (0 + (5 + (List.length ([] ++ iL g.2) + 0))) (Value.int IntKind.u8 (101 : Int) :: Value.int IntKind.u8 (112 : Int) ::
  Value.int IntKind.u8 (108 : Int) :: Value.int IntKind.u8 (121 : Int) :: Value.int IntKind.u8 (32 : Int) :: List.map (fun b ↦ Value.int IntKind.u8 (↑(UInt8.toNat b) : Int))
  ([] ++ iL g.2)) ++ Value.int IntKind.u8 (32 : Int) :: List.map (fun b ↦ Value.int IntKind.u8 (↑(UInt8.toNat b) : Int)) ([] ++ iL g.3)))))) /\ ((Eq (α := List Value) (gC
  enR g.5) (gC enR g.5)) /\ ((Plain (gC enR g.5)) /\ True)))) False) False) False) False) False)) False) False) False)) := by kernel_rfl
theorem Li14_vc (g : GS) (v : ByteArray) : mcall EtLi noM 200 6 [.agg ⟨stpC { g with k := 14 }⟩] ⟨mkR (nums 0 [gRo enR g.l]), 1⟩ (retIs 1 (.string v) [gRo enR g.l]) =
  ((((True /\ True) /\ (True /\ (True /\ I64 g.3)))) /\ (br (decide (1 + List.length (iL g.3) <= 9223372036854775807)) (br (allOne (Value.int IntKind.u8 (32 : Int) ::
  List.map (fun b ↦ Value.int IntKind.u8 (↑(UInt8.toNat b) : Int)) ([] ++ iL g.3))) (br (decide (5 + List.length (32 :: ([] ++ iL g.3)) <= 16777216)) (br (decide (0 + (5 +
  List.length (32 :: ([] ++ iL g.3))) <= List.length (Value.int IntKind.u8 (99 : Int) :: Value.int IntKind.u8 (108 : Int) :: Value.int IntKind.u8 (111 : Int) :: Value.int
  IntKind.u8 (99 : Int) :: Value.int IntKind.u8 (107 : Int) :: Value.int IntKind.u8 (32 : Int) :: List.map (fun b ↦ Value.int IntKind.u8 (↑(UInt8.toNat b) : Int)) ([] ++ iL
  g.3)))) ((AllB (Value.int IntKind.u8 (99 : Int) :: List.take (5 + (List.length ([] ++ iL g.3) + 0)) (Value.int IntKind.u8 (108 : Int) :: Value.int IntKind.u8 (111 : Int)
  :: Value.int IntKind.u8 (99 : Int) :: Value.int IntKind.u8 (107 : Int) :: Value.int IntKind.u8 (32 : Int) :: List.map (fun b ↦ Value.int IntKind.u8 (↑(UInt8.toNat b) :
  Int)) ([] ++ iL g.3)))) /\ ((v = ByteArray.mk (Array.mk (bOf (Value.int IntKind.u8 (↑(UInt8.toNat 99) : Int)) :: List.map bOf (List.take (5 + (List.length ([] ++ iL g.3) +
  0)) (Value.int IntKind.u8 (108 : Int) :: Value.int IntKind.u8 (111 : Int) :: Value.int IntKind.u8 (99 : Int) :: Value.int IntKind.u8 (107 : Int) :: Value.int IntKind.u8
  (32 : Int) :: List.map (fun b ↦ Value.int IntKind.u8 (↑(UInt8.toNat b) : Int)) ([] ++ iL g.3)))))) /\ ((Eq (α := List Value) (gC enR g.5) (gC enR g.5)) /\ ((Plain (gC enR
  g.5)) /\ True)))) False) False) False) False)) := by kernel_rfl
def okG (g : GS) : Prop := I64 g.a ∧ I64 g.b ∧ I64 g.c ∧ g.t.length ≤ 4000 ∧ g.l.length ≤ maxLen ∧ (∀ r ∈ g.l, okRw r) ∧ (rwsL g.l).length ≤ 900000
theorem iLit (n : Int) : iL n = Lib.itoa n := Lit n
theorem fin1 {cells : List Value} {l : List UInt8} (h : cells = bCells l) : AllB cells := h ▸ bCells_all l
theorem eMap (A : List UInt8) : List.map (fun b => Value.int IntKind.u8 (b.toNat : Int)) ([] ++ A) = bCells A := rfl
theorem one32 (A : List UInt8) : allOne (Value.int IntKind.u8 (32 : Int) :: bCells A) = true := bCells_one (32 :: A)
theorem Li1_con (g : GS) (h : okG g) : Con Tryz.prog 6 [.agg ⟨stpC { g with k := 1 }⟩] [gRo enR g.l] (.string (bs (li1 g))) [gRo enR g.l] := by
  obtain ⟨ha, hb, hc, ht, hl, hr, hs⟩ := h
  refine con_vc (E := EtLi) mixed (calls_envT tLi_ok) (lok_envT _ _) (M := noM) lm_none (Li1_vc g _) ?_
  have la := itoa_le _ ha
  have lb := itoa_le _ hb
  have lc := itoa_le _ hc
  have lw := word_le g.t
  have qt : (L (bs g.t)).length = g.t.length := rfl
  obtain ⟨R, hR⟩ : ∃ R, R = li1 g := ⟨_, rfl⟩
  rw [← hR]
  unfold li1 at hR
  simp only [tW, eW, nW] at hR
  simp only [ofNat_eq, toNat_cast, Nat.zero_add, Nat.add_zero, Nat.mul_one, List.drop_zero, bCells_len, bCells_drop, bCells_take, bCells_app, bCells_one, bCells_plain, List.length_replicate, List.length_append, List.length_take, List.length_drop, List.take_length, and_true, true_and, and_self, decide_true, List.length_nil, List.length_cons, Nat.sub_zero, dB_mk, dB_ro, List.take_zero, Lit, iLit, wordZ_bs, eMap, one32]
  generalize Lib.itoa g.a = A at *
  generalize Lib.itoa g.b = B at *
  generalize Lib.itoa g.c = C at *
  generalize wordL g.t = W at *
  have qc : ∀ A : List UInt8, (bCells A).length = A.length := bCells_len
  have pl := rPl g.l
  try simp only [List.length_append, List.length_cons, List.length_nil, qc]
  repeat' first
    | refine br_dec (by omega) ?_
    | refine br_b rfl ?_
    | exact absurd ‹False› id
    | refine And.intro (by omega) ?_
    | refine And.intro (by assumption) ?_
    | refine br_intro (fun he => ?_) (fun he => ?_)
  all_goals
    refine ⟨fin1 (l := R) ?_, (show ByteArray.mk (Array.mk R) = _ from congrArg (fun l => ByteArray.mk (Array.mk l)) ?_), pl⟩
    · rw [hR]
      simp (disch := (simp only [List.length_append, List.length_cons, List.length_nil, qc]; omega)) only [List.take_of_length_le]
      simp [bCells, bVal, *]
    · rw [hR]
      simp (disch := (simp only [List.length_append, List.length_cons, List.length_nil, qc]; omega)) only [List.take_of_length_le]
      simp [bCells_bOf, bOf, *]
theorem Li3_con (g : GS) (h : okG g) : Con Tryz.prog 6 [.agg ⟨stpC { g with k := 3 }⟩] [gRo enR g.l] (.string (bs (li3 g))) [gRo enR g.l] := by
  obtain ⟨ha, hb, hc, ht, hl, hr, hs⟩ := h
  refine con_vc (E := EtLi) mixed (calls_envT tLi_ok) (lok_envT _ _) (M := noM) lm_none (Li3_vc g _) ?_
  have la := itoa_le _ ha
  have lb := itoa_le _ hb
  have lc := itoa_le _ hc
  have lw := word_le g.t
  have qt : (L (bs g.t)).length = g.t.length := rfl
  obtain ⟨R, hR⟩ : ∃ R, R = li3 g := ⟨_, rfl⟩
  rw [← hR]
  unfold li3 at hR
  simp only [tW, eW, nW] at hR
  simp only [ofNat_eq, toNat_cast, Nat.zero_add, Nat.add_zero, Nat.mul_one, List.drop_zero, bCells_len, bCells_drop, bCells_take, bCells_app, bCells_one, bCells_plain, List.length_replicate, List.length_append, List.length_take, List.length_drop, List.take_length, and_true, true_and, and_self, decide_true, List.length_nil, List.length_cons, Nat.sub_zero, dB_mk, dB_ro, List.take_zero, Lit, iLit, wordZ_bs, eMap, one32]
  generalize Lib.itoa g.a = A at *
  generalize Lib.itoa g.b = B at *
  generalize Lib.itoa g.c = C at *
  generalize wordL g.t = W at *
  have qc : ∀ A : List UInt8, (bCells A).length = A.length := bCells_len
  have pl := rPl g.l
  try simp only [List.length_append, List.length_cons, List.length_nil, qc]
  repeat' first
    | refine br_dec (by omega) ?_
    | refine br_b rfl ?_
    | exact absurd ‹False› id
    | refine And.intro (by omega) ?_
    | refine And.intro (by assumption) ?_
    | refine br_intro (fun he => ?_) (fun he => ?_)
  all_goals
    refine ⟨fin1 (l := R) ?_, (show ByteArray.mk (Array.mk R) = _ from congrArg (fun l => ByteArray.mk (Array.mk l)) ?_), pl⟩
    · rw [hR]
      simp (disch := (simp only [List.length_append, List.length_cons, List.length_nil, qc]; omega)) only [List.take_of_length_le]
      simp [bCells, bVal, *]
    · rw [hR]
      simp (disch := (simp only [List.length_append, List.length_cons, List.length_nil, qc]; omega)) only [List.take_of_length_le]
      simp [bCells_bOf, bOf, *]
theorem Li4_con (g : GS) (h : okG g) : Con Tryz.prog 6 [.agg ⟨stpC { g with k := 4 }⟩] [gRo enR g.l] (.string (bs (li4 g))) [gRo enR g.l] := by
  obtain ⟨ha, hb, hc, ht, hl, hr, hs⟩ := h
  refine con_vc (E := EtLi) mixed (calls_envT tLi_ok) (lok_envT _ _) (M := noM) lm_none (Li4_vc g _) ?_
  have la := itoa_le _ ha
  have lb := itoa_le _ hb
  have lc := itoa_le _ hc
  have lw := word_le g.t
  have qt : (L (bs g.t)).length = g.t.length := rfl
  obtain ⟨R, hR⟩ : ∃ R, R = li4 g := ⟨_, rfl⟩
  rw [← hR]
  unfold li4 at hR
  simp only [tW, eW, nW] at hR
  simp only [ofNat_eq, toNat_cast, Nat.zero_add, Nat.add_zero, Nat.mul_one, List.drop_zero, bCells_len, bCells_drop, bCells_take, bCells_app, bCells_one, bCells_plain, List.length_replicate, List.length_append, List.length_take, List.length_drop, List.take_length, and_true, true_and, and_self, decide_true, List.length_nil, List.length_cons, Nat.sub_zero, dB_mk, dB_ro, List.take_zero, Lit, iLit, wordZ_bs, eMap, one32]
  generalize Lib.itoa g.a = A at *
  generalize Lib.itoa g.b = B at *
  generalize Lib.itoa g.c = C at *
  generalize wordL g.t = W at *
  have qc : ∀ A : List UInt8, (bCells A).length = A.length := bCells_len
  have pl := rPl g.l
  try simp only [List.length_append, List.length_cons, List.length_nil, qc]
  repeat' first
    | refine br_dec (by omega) ?_
    | refine br_b rfl ?_
    | exact absurd ‹False› id
    | refine And.intro (by omega) ?_
    | refine And.intro (by assumption) ?_
    | refine br_intro (fun he => ?_) (fun he => ?_)
  all_goals
    refine ⟨fin1 (l := R) ?_, (show ByteArray.mk (Array.mk R) = _ from congrArg (fun l => ByteArray.mk (Array.mk l)) ?_), pl⟩
    · rw [hR]
      simp (disch := (simp only [List.length_append, List.length_cons, List.length_nil, qc]; omega)) only [List.take_of_length_le]
      simp [bCells, bVal, *]
    · rw [hR]
      simp (disch := (simp only [List.length_append, List.length_cons, List.length_nil, qc]; omega)) only [List.take_of_length_le]
      simp [bCells_bOf, bOf, *]
theorem Li5_con (g : GS) (h : okG g) : Con Tryz.prog 6 [.agg ⟨stpC { g with k := 5 }⟩] [gRo enR g.l] (.string (bs (li5 g))) [gRo enR g.l] := by
  obtain ⟨ha, hb, hc, ht, hl, hr, hs⟩ := h
  refine con_vc (E := EtLi) mixed (calls_envT tLi_ok) (lok_envT _ _) (M := noM) lm_none (Li5_vc g _) ?_
  have la := itoa_le _ ha
  have lb := itoa_le _ hb
  have lc := itoa_le _ hc
  have lw := word_le g.t
  have qt : (L (bs g.t)).length = g.t.length := rfl
  obtain ⟨R, hR⟩ : ∃ R, R = li5 g := ⟨_, rfl⟩
  rw [← hR]
  unfold li5 at hR
  simp only [tW, eW, nW] at hR
  simp only [ofNat_eq, toNat_cast, Nat.zero_add, Nat.add_zero, Nat.mul_one, List.drop_zero, bCells_len, bCells_drop, bCells_take, bCells_app, bCells_one, bCells_plain, List.length_replicate, List.length_append, List.length_take, List.length_drop, List.take_length, and_true, true_and, and_self, decide_true, List.length_nil, List.length_cons, Nat.sub_zero, dB_mk, dB_ro, List.take_zero, Lit, iLit, wordZ_bs, eMap, one32]
  generalize Lib.itoa g.a = A at *
  generalize Lib.itoa g.b = B at *
  generalize Lib.itoa g.c = C at *
  generalize wordL g.t = W at *
  have qc : ∀ A : List UInt8, (bCells A).length = A.length := bCells_len
  have pl := rPl g.l
  try simp only [List.length_append, List.length_cons, List.length_nil, qc]
  repeat' first
    | refine br_dec (by omega) ?_
    | refine br_b rfl ?_
    | exact absurd ‹False› id
    | refine And.intro (by omega) ?_
    | refine And.intro (by assumption) ?_
    | refine br_intro (fun he => ?_) (fun he => ?_)
  all_goals
    refine ⟨fin1 (l := R) ?_, (show ByteArray.mk (Array.mk R) = _ from congrArg (fun l => ByteArray.mk (Array.mk l)) ?_), pl⟩
    · rw [hR]
      simp (disch := (simp only [List.length_append, List.length_cons, List.length_nil, qc]; omega)) only [List.take_of_length_le]
      simp [bCells, bVal, *]
    · rw [hR]
      simp (disch := (simp only [List.length_append, List.length_cons, List.length_nil, qc]; omega)) only [List.take_of_length_le]
      simp [bCells_bOf, bOf, *]
theorem Li7_con (g : GS) (h : okG g) : Con Tryz.prog 6 [.agg ⟨stpC { g with k := 7 }⟩] [gRo enR g.l] (.string (bs (li7 g))) [gRo enR g.l] := by
  obtain ⟨ha, hb, hc, ht, hl, hr, hs⟩ := h
  refine con_vc (E := EtLi) mixed (calls_envT tLi_ok) (lok_envT _ _) (M := noM) lm_none (Li7_vc g _) ?_
  have la := itoa_le _ ha
  have lb := itoa_le _ hb
  have lc := itoa_le _ hc
  have lw := word_le g.t
  have qt : (L (bs g.t)).length = g.t.length := rfl
  obtain ⟨R, hR⟩ : ∃ R, R = li7 g := ⟨_, rfl⟩
  rw [← hR]
  unfold li7 at hR
  simp only [tW, eW, nW] at hR
  simp only [ofNat_eq, toNat_cast, Nat.zero_add, Nat.add_zero, Nat.mul_one, List.drop_zero, bCells_len, bCells_drop, bCells_take, bCells_app, bCells_one, bCells_plain, List.length_replicate, List.length_append, List.length_take, List.length_drop, List.take_length, and_true, true_and, and_self, decide_true, List.length_nil, List.length_cons, Nat.sub_zero, dB_mk, dB_ro, List.take_zero, Lit, iLit, wordZ_bs, eMap, one32]
  generalize Lib.itoa g.a = A at *
  generalize Lib.itoa g.b = B at *
  generalize Lib.itoa g.c = C at *
  generalize wordL g.t = W at *
  have qc : ∀ A : List UInt8, (bCells A).length = A.length := bCells_len
  have pl := rPl g.l
  try simp only [List.length_append, List.length_cons, List.length_nil, qc]
  repeat' first
    | refine br_dec (by omega) ?_
    | refine br_b rfl ?_
    | exact absurd ‹False› id
    | refine And.intro (by omega) ?_
    | refine And.intro (by assumption) ?_
    | refine br_intro (fun he => ?_) (fun he => ?_)
  all_goals
    refine ⟨fin1 (l := R) ?_, (show ByteArray.mk (Array.mk R) = _ from congrArg (fun l => ByteArray.mk (Array.mk l)) ?_), pl⟩
    · rw [hR]
      simp (disch := (simp only [List.length_append, List.length_cons, List.length_nil, qc]; omega)) only [List.take_of_length_le]
      simp [bCells, bVal, *]
    · rw [hR]
      simp (disch := (simp only [List.length_append, List.length_cons, List.length_nil, qc]; omega)) only [List.take_of_length_le]
      simp [bCells_bOf, bOf, *]
theorem Li8_con (g : GS) (h : okG g) : Con Tryz.prog 6 [.agg ⟨stpC { g with k := 8 }⟩] [gRo enR g.l] (.string (bs (li8 g))) [gRo enR g.l] := by
  obtain ⟨ha, hb, hc, ht, hl, hr, hs⟩ := h
  refine con_vc (E := EtLi) mixed (calls_envT tLi_ok) (lok_envT _ _) (M := noM) lm_none (Li8_vc g _) ?_
  have la := itoa_le _ ha
  have lb := itoa_le _ hb
  have lc := itoa_le _ hc
  have lw := word_le g.t
  have qt : (L (bs g.t)).length = g.t.length := rfl
  obtain ⟨R, hR⟩ : ∃ R, R = li8 g := ⟨_, rfl⟩
  rw [← hR]
  unfold li8 at hR
  simp only [tW, eW, nW] at hR
  simp only [ofNat_eq, toNat_cast, Nat.zero_add, Nat.add_zero, Nat.mul_one, List.drop_zero, bCells_len, bCells_drop, bCells_take, bCells_app, bCells_one, bCells_plain, List.length_replicate, List.length_append, List.length_take, List.length_drop, List.take_length, and_true, true_and, and_self, decide_true, List.length_nil, List.length_cons, Nat.sub_zero, dB_mk, dB_ro, List.take_zero, Lit, iLit, wordZ_bs, eMap, one32]
  generalize Lib.itoa g.a = A at *
  generalize Lib.itoa g.b = B at *
  generalize Lib.itoa g.c = C at *
  generalize wordL g.t = W at *
  have qc : ∀ A : List UInt8, (bCells A).length = A.length := bCells_len
  have pl := rPl g.l
  try simp only [List.length_append, List.length_cons, List.length_nil, qc]
  repeat' first
    | refine br_dec (by omega) ?_
    | refine br_b rfl ?_
    | exact absurd ‹False› id
    | refine And.intro (by omega) ?_
    | refine And.intro (by assumption) ?_
    | refine br_intro (fun he => ?_) (fun he => ?_)
  all_goals
    refine ⟨fin1 (l := R) ?_, (show ByteArray.mk (Array.mk R) = _ from congrArg (fun l => ByteArray.mk (Array.mk l)) ?_), pl⟩
    · rw [hR]
      simp (disch := (simp only [List.length_append, List.length_cons, List.length_nil, qc]; omega)) only [List.take_of_length_le]
      simp [bCells, bVal, *]
    · rw [hR]
      simp (disch := (simp only [List.length_append, List.length_cons, List.length_nil, qc]; omega)) only [List.take_of_length_le]
      simp [bCells_bOf, bOf, *]
theorem Li9_con (g : GS) (h : okG g) : Con Tryz.prog 6 [.agg ⟨stpC { g with k := 9 }⟩] [gRo enR g.l] (.string (bs (li9 g))) [gRo enR g.l] := by
  obtain ⟨ha, hb, hc, ht, hl, hr, hs⟩ := h
  refine con_vc (E := EtLi) mixed (calls_envT tLi_ok) (lok_envT _ _) (M := noM) lm_none (Li9_vc g _) ?_
  have la := itoa_le _ ha
  have lb := itoa_le _ hb
  have lc := itoa_le _ hc
  have lw := word_le g.t
  have qt : (L (bs g.t)).length = g.t.length := rfl
  obtain ⟨R, hR⟩ : ∃ R, R = li9 g := ⟨_, rfl⟩
  rw [← hR]
  unfold li9 at hR
  simp only [tW, eW, nW] at hR
  simp only [ofNat_eq, toNat_cast, Nat.zero_add, Nat.add_zero, Nat.mul_one, List.drop_zero, bCells_len, bCells_drop, bCells_take, bCells_app, bCells_one, bCells_plain, List.length_replicate, List.length_append, List.length_take, List.length_drop, List.take_length, and_true, true_and, and_self, decide_true, List.length_nil, List.length_cons, Nat.sub_zero, dB_mk, dB_ro, List.take_zero, Lit, iLit, wordZ_bs, eMap, one32]
  generalize Lib.itoa g.a = A at *
  generalize Lib.itoa g.b = B at *
  generalize Lib.itoa g.c = C at *
  generalize wordL g.t = W at *
  have qc : ∀ A : List UInt8, (bCells A).length = A.length := bCells_len
  have pl := rPl g.l
  try simp only [List.length_append, List.length_cons, List.length_nil, qc]
  repeat' first
    | refine br_dec (by omega) ?_
    | refine br_b rfl ?_
    | exact absurd ‹False› id
    | refine And.intro (by omega) ?_
    | refine And.intro (by assumption) ?_
    | refine br_intro (fun he => ?_) (fun he => ?_)
  all_goals
    refine ⟨fin1 (l := R) ?_, (show ByteArray.mk (Array.mk R) = _ from congrArg (fun l => ByteArray.mk (Array.mk l)) ?_), pl⟩
    · rw [hR]
      simp (disch := (simp only [List.length_append, List.length_cons, List.length_nil, qc]; omega)) only [List.take_of_length_le]
      simp [bCells, bVal, *]
    · rw [hR]
      simp (disch := (simp only [List.length_append, List.length_cons, List.length_nil, qc]; omega)) only [List.take_of_length_le]
      simp [bCells_bOf, bOf, *]
theorem Li10_con (g : GS) (h : okG g) : Con Tryz.prog 6 [.agg ⟨stpC { g with k := 10 }⟩] [gRo enR g.l] (.string (bs (li10 g))) [gRo enR g.l] := by
  obtain ⟨ha, hb, hc, ht, hl, hr, hs⟩ := h
  refine con_vc (E := EtLi) mixed (calls_envT tLi_ok) (lok_envT _ _) (M := noM) lm_none (Li10_vc g _) ?_
  have la := itoa_le _ ha
  have lb := itoa_le _ hb
  have lc := itoa_le _ hc
  have lw := word_le g.t
  have qt : (L (bs g.t)).length = g.t.length := rfl
  obtain ⟨R, hR⟩ : ∃ R, R = li10 g := ⟨_, rfl⟩
  rw [← hR]
  unfold li10 at hR
  simp only [tW, eW, nW] at hR
  simp only [ofNat_eq, toNat_cast, Nat.zero_add, Nat.add_zero, Nat.mul_one, List.drop_zero, bCells_len, bCells_drop, bCells_take, bCells_app, bCells_one, bCells_plain, List.length_replicate, List.length_append, List.length_take, List.length_drop, List.take_length, and_true, true_and, and_self, decide_true, List.length_nil, List.length_cons, Nat.sub_zero, dB_mk, dB_ro, List.take_zero, Lit, iLit, wordZ_bs, eMap, one32]
  generalize Lib.itoa g.a = A at *
  generalize Lib.itoa g.b = B at *
  generalize Lib.itoa g.c = C at *
  generalize wordL g.t = W at *
  have qc : ∀ A : List UInt8, (bCells A).length = A.length := bCells_len
  have pl := rPl g.l
  try simp only [List.length_append, List.length_cons, List.length_nil, qc]
  repeat' first
    | refine br_dec (by omega) ?_
    | refine br_b rfl ?_
    | exact absurd ‹False› id
    | refine And.intro (by omega) ?_
    | refine And.intro (by assumption) ?_
    | refine br_intro (fun he => ?_) (fun he => ?_)
  all_goals
    refine ⟨fin1 (l := R) ?_, (show ByteArray.mk (Array.mk R) = _ from congrArg (fun l => ByteArray.mk (Array.mk l)) ?_), pl⟩
    · rw [hR]
      simp (disch := (simp only [List.length_append, List.length_cons, List.length_nil, qc]; omega)) only [List.take_of_length_le]
      simp [bCells, bVal, *]
    · rw [hR]
      simp (disch := (simp only [List.length_append, List.length_cons, List.length_nil, qc]; omega)) only [List.take_of_length_le]
      simp [bCells_bOf, bOf, *]
theorem Li11_con (g : GS) (h : okG g) : Con Tryz.prog 6 [.agg ⟨stpC { g with k := 11 }⟩] [gRo enR g.l] (.string (bs (li11 g))) [gRo enR g.l] := by
  obtain ⟨ha, hb, hc, ht, hl, hr, hs⟩ := h
  refine con_vc (E := EtLi) mixed (calls_envT tLi_ok) (lok_envT _ _) (M := noM) lm_none (Li11_vc g _) ?_
  have la := itoa_le _ ha
  have lb := itoa_le _ hb
  have lc := itoa_le _ hc
  have lw := word_le g.t
  have qt : (L (bs g.t)).length = g.t.length := rfl
  obtain ⟨R, hR⟩ : ∃ R, R = li11 g := ⟨_, rfl⟩
  rw [← hR]
  unfold li11 at hR
  simp only [tW, eW, nW] at hR
  simp only [ofNat_eq, toNat_cast, Nat.zero_add, Nat.add_zero, Nat.mul_one, List.drop_zero, bCells_len, bCells_drop, bCells_take, bCells_app, bCells_one, bCells_plain, List.length_replicate, List.length_append, List.length_take, List.length_drop, List.take_length, and_true, true_and, and_self, decide_true, List.length_nil, List.length_cons, Nat.sub_zero, dB_mk, dB_ro, List.take_zero, Lit, iLit, wordZ_bs, eMap, one32]
  generalize Lib.itoa g.a = A at *
  generalize Lib.itoa g.b = B at *
  generalize Lib.itoa g.c = C at *
  generalize wordL g.t = W at *
  have qc : ∀ A : List UInt8, (bCells A).length = A.length := bCells_len
  have pl := rPl g.l
  try simp only [List.length_append, List.length_cons, List.length_nil, qc]
  repeat' first
    | refine br_dec (by omega) ?_
    | refine br_b rfl ?_
    | exact absurd ‹False› id
    | refine And.intro (by omega) ?_
    | refine And.intro (by assumption) ?_
    | refine br_intro (fun he => ?_) (fun he => ?_)
  all_goals
    refine ⟨fin1 (l := R) ?_, (show ByteArray.mk (Array.mk R) = _ from congrArg (fun l => ByteArray.mk (Array.mk l)) ?_), pl⟩
    · rw [hR]
      simp (disch := (simp only [List.length_append, List.length_cons, List.length_nil, qc]; omega)) only [List.take_of_length_le]
      simp [bCells, bVal, *]
    · rw [hR]
      simp (disch := (simp only [List.length_append, List.length_cons, List.length_nil, qc]; omega)) only [List.take_of_length_le]
      simp [bCells_bOf, bOf, *]
theorem Li12_con (g : GS) (h : okG g) : Con Tryz.prog 6 [.agg ⟨stpC { g with k := 12 }⟩] [gRo enR g.l] (.string (bs (li12 g))) [gRo enR g.l] := by
  obtain ⟨ha, hb, hc, ht, hl, hr, hs⟩ := h
  refine con_vc (E := EtLi) mixed (calls_envT tLi_ok) (lok_envT _ _) (M := noM) lm_none (Li12_vc g _) ?_
  have la := itoa_le _ ha
  have lb := itoa_le _ hb
  have lc := itoa_le _ hc
  have lw := word_le g.t
  have qt : (L (bs g.t)).length = g.t.length := rfl
  obtain ⟨R, hR⟩ : ∃ R, R = li12 g := ⟨_, rfl⟩
  rw [← hR]
  unfold li12 at hR
  simp only [tW, eW, nW] at hR
  simp only [ofNat_eq, toNat_cast, Nat.zero_add, Nat.add_zero, Nat.mul_one, List.drop_zero, bCells_len, bCells_drop, bCells_take, bCells_app, bCells_one, bCells_plain, List.length_replicate, List.length_append, List.length_take, List.length_drop, List.take_length, and_true, true_and, and_self, decide_true, List.length_nil, List.length_cons, Nat.sub_zero, dB_mk, dB_ro, List.take_zero, Lit, iLit, wordZ_bs, eMap, one32]
  generalize Lib.itoa g.a = A at *
  generalize Lib.itoa g.b = B at *
  generalize Lib.itoa g.c = C at *
  generalize wordL g.t = W at *
  have qc : ∀ A : List UInt8, (bCells A).length = A.length := bCells_len
  have pl := rPl g.l
  try simp only [List.length_append, List.length_cons, List.length_nil, qc]
  repeat' first
    | refine br_dec (by omega) ?_
    | refine br_b rfl ?_
    | exact absurd ‹False› id
    | refine And.intro (by omega) ?_
    | refine And.intro (by assumption) ?_
    | refine br_intro (fun he => ?_) (fun he => ?_)
  all_goals
    refine ⟨fin1 (l := R) ?_, (show ByteArray.mk (Array.mk R) = _ from congrArg (fun l => ByteArray.mk (Array.mk l)) ?_), pl⟩
    · rw [hR]
      simp (disch := (simp only [List.length_append, List.length_cons, List.length_nil, qc]; omega)) only [List.take_of_length_le]
      simp [bCells, bVal, *]
    · rw [hR]
      simp (disch := (simp only [List.length_append, List.length_cons, List.length_nil, qc]; omega)) only [List.take_of_length_le]
      simp [bCells_bOf, bOf, *]
theorem Li13_con (g : GS) (h : okG g) : Con Tryz.prog 6 [.agg ⟨stpC { g with k := 13 }⟩] [gRo enR g.l] (.string (bs (li13 g))) [gRo enR g.l] := by
  obtain ⟨ha, hb, hc, ht, hl, hr, hs⟩ := h
  refine con_vc (E := EtLi) mixed (calls_envT tLi_ok) (lok_envT _ _) (M := noM) lm_none (Li13_vc g _) ?_
  have la := itoa_le _ ha
  have lb := itoa_le _ hb
  have lc := itoa_le _ hc
  have lw := word_le g.t
  have qt : (L (bs g.t)).length = g.t.length := rfl
  obtain ⟨R, hR⟩ : ∃ R, R = li13 g := ⟨_, rfl⟩
  rw [← hR]
  unfold li13 at hR
  simp only [tW, eW, nW] at hR
  simp only [ofNat_eq, toNat_cast, Nat.zero_add, Nat.add_zero, Nat.mul_one, List.drop_zero, bCells_len, bCells_drop, bCells_take, bCells_app, bCells_one, bCells_plain, List.length_replicate, List.length_append, List.length_take, List.length_drop, List.take_length, and_true, true_and, and_self, decide_true, List.length_nil, List.length_cons, Nat.sub_zero, dB_mk, dB_ro, List.take_zero, Lit, iLit, wordZ_bs, eMap, one32]
  generalize Lib.itoa g.a = A at *
  generalize Lib.itoa g.b = B at *
  generalize Lib.itoa g.c = C at *
  generalize wordL g.t = W at *
  have qc : ∀ A : List UInt8, (bCells A).length = A.length := bCells_len
  have pl := rPl g.l
  try simp only [List.length_append, List.length_cons, List.length_nil, qc]
  repeat' first
    | refine br_dec (by omega) ?_
    | refine br_b rfl ?_
    | exact absurd ‹False› id
    | refine And.intro (by omega) ?_
    | refine And.intro (by assumption) ?_
    | refine br_intro (fun he => ?_) (fun he => ?_)
  all_goals
    refine ⟨fin1 (l := R) ?_, (show ByteArray.mk (Array.mk R) = _ from congrArg (fun l => ByteArray.mk (Array.mk l)) ?_), pl⟩
    · rw [hR]
      simp (disch := (simp only [List.length_append, List.length_cons, List.length_nil, qc]; omega)) only [List.take_of_length_le]
      simp [bCells, bVal, *]
    · rw [hR]
      simp (disch := (simp only [List.length_append, List.length_cons, List.length_nil, qc]; omega)) only [List.take_of_length_le]
      simp [bCells_bOf, bOf, *]
theorem Li14_con (g : GS) (h : okG g) : Con Tryz.prog 6 [.agg ⟨stpC { g with k := 14 }⟩] [gRo enR g.l] (.string (bs (li14 g))) [gRo enR g.l] := by
  obtain ⟨ha, hb, hc, ht, hl, hr, hs⟩ := h
  refine con_vc (E := EtLi) mixed (calls_envT tLi_ok) (lok_envT _ _) (M := noM) lm_none (Li14_vc g _) ?_
  have la := itoa_le _ ha
  have lb := itoa_le _ hb
  have lc := itoa_le _ hc
  have lw := word_le g.t
  have qt : (L (bs g.t)).length = g.t.length := rfl
  obtain ⟨R, hR⟩ : ∃ R, R = li14 g := ⟨_, rfl⟩
  rw [← hR]
  unfold li14 at hR
  simp only [tW, eW, nW] at hR
  simp only [ofNat_eq, toNat_cast, Nat.zero_add, Nat.add_zero, Nat.mul_one, List.drop_zero, bCells_len, bCells_drop, bCells_take, bCells_app, bCells_one, bCells_plain, List.length_replicate, List.length_append, List.length_take, List.length_drop, List.take_length, and_true, true_and, and_self, decide_true, List.length_nil, List.length_cons, Nat.sub_zero, dB_mk, dB_ro, List.take_zero, Lit, iLit, wordZ_bs, eMap, one32]
  generalize Lib.itoa g.a = A at *
  generalize Lib.itoa g.b = B at *
  generalize Lib.itoa g.c = C at *
  generalize wordL g.t = W at *
  have qc : ∀ A : List UInt8, (bCells A).length = A.length := bCells_len
  have pl := rPl g.l
  try simp only [List.length_append, List.length_cons, List.length_nil, qc]
  repeat' first
    | refine br_dec (by omega) ?_
    | refine br_b rfl ?_
    | exact absurd ‹False› id
    | refine And.intro (by omega) ?_
    | refine And.intro (by assumption) ?_
    | refine br_intro (fun he => ?_) (fun he => ?_)
  all_goals
    refine ⟨fin1 (l := R) ?_, (show ByteArray.mk (Array.mk R) = _ from congrArg (fun l => ByteArray.mk (Array.mk l)) ?_), pl⟩
    · rw [hR]
      simp (disch := (simp only [List.length_append, List.length_cons, List.length_nil, qc]; omega)) only [List.take_of_length_le]
      simp [bCells, bVal, *]
    · rw [hR]
      simp (disch := (simp only [List.length_append, List.length_cons, List.length_nil, qc]; omega)) only [List.take_of_length_le]
      simp [bCells_bOf, bOf, *]
end Go.Proofs.YtnbfhihibgdgpaaGreatDoor.sl
