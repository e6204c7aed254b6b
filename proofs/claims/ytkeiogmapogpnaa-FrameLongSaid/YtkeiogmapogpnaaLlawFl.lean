/- FrameLong: a frame that is just as long as may be is told, one that is longer ends all, and nothing is told behind it. -/
import Derived.Test.YtkeiogmapogpnaaSz9
import Derived.Test.YtkeiogmapogpnaaRows
import Derived.Test.YtkeiogmapogpnaaLfp
set_option linter.unusedSimpArgs false
set_option linter.unusedVariables false
namespace Go.Proofs.Ytkeiogmapogpnaa.fe
open Go Go.Ev Go.Sy Go.RowKit Go.Proofs.Ytkeiogmapogpnaa.s9 Go.Proofs.Ytkeiogmapogpnaa.fd Go.Proofs.Ytkeiogmapogpnaa.gl
noncomputable def tL : List EntM := [eWiF, eRunF, ePut, eFeed, eSameF]
noncomputable abbrev EtL : Env := envT Try.prog tL
theorem Fl_vc (over : Int) (l : List UInt8) : mcall EtL noM 60 9 [.int .i64 over, slc 0 l.length] ⟨mkR (nums 0 [bRo l]), 1⟩ (retIs 1 (.bool true) [bRo l]) =
  ((((True /\ (True /\ (True /\ True))) /\ (True /\ (True /\ (I64 over /\ ((-1000000000000 : Int) <= (0 : Int) /\ ((3 : Int) <= (1000000000000 : Int) /\ (0 : Int) <= (3 :
  Int)))))))) /\ (br (decide (Int.ofNat (List.length l) > (500 : Int))) ((true = true) /\ ((Eq (α := List Value) (bCells l) (bCells l)) /\ ((Plain (bCells l)) /\ True))) (br
  (decide ((0 : Int) <= IntKind.wrap IntKind.i64 ((16384 : Int) + tk.inside over (0 : Int) (3 : Int)) /\ IntKind.wrap IntKind.i64 ((16384 : Int) + tk.inside over (0 : Int)
  (3 : Int)) <= IntKind.wrap IntKind.i64 ((16384 : Int) + tk.inside over (0 : Int) (3 : Int)) /\ IntKind.wrap IntKind.i64 ((16384 : Int) + tk.inside over (0 : Int) (3 :
  Int)) <= (16777216 : Int))) ((((True /\ ((True /\ (True /\ (True /\ ((0 + Int.toNat (IntKind.wrap IntKind.i64 ((16384 : Int) + tk.inside over (0 : Int) (3 : Int))) * 1 <=
  List.length (List.replicate (Int.toNat (IntKind.wrap IntKind.i64 ((16384 : Int) + tk.inside over (0 : Int) (3 : Int)))) (Value.int IntKind.u8 (0 : Int))) /\ Plain
  (List.take (Int.toNat (IntKind.wrap IntKind.i64 ((16384 : Int) + tk.inside over (0 : Int) (3 : Int))) * 1) (List.drop 0 (List.replicate (Int.toNat (IntKind.wrap
  IntKind.i64 ((16384 : Int) + tk.inside over (0 : Int) (3 : Int)))) (Value.int IntKind.u8 (0 : Int)))))) /\ True)))) /\ True)) /\ ((True /\ (True /\ True)) /\ ((Plain
  (bCells (zP (Row.mk [] true (Ob.cells true)) (Row.mk (List.take (Int.toNat (IntKind.wrap IntKind.i64 ((16384 : Int) + tk.inside over (0 : Int) (3 : Int))) * 1) (List.drop
  0 (List.replicate (Int.toNat (IntKind.wrap IntKind.i64 ((16384 : Int) + tk.inside over (0 : Int) (3 : Int)))) (Value.int IntKind.u8 (0 : Int))))) true (Ob.cells true)) (0
  : Int) (0 : Int) (1 : Int))) /\ True) /\ (IsB (Row.mk [] true (Ob.cells true)) 0 /\ (IsB (Row.mk (List.take (Int.toNat (IntKind.wrap IntKind.i64 ((16384 : Int) + tk.inside
  over (0 : Int) (3 : Int))) * 1) (List.drop 0 (List.replicate (Int.toNat (IntKind.wrap IntKind.i64 ((16384 : Int) + tk.inside over (0 : Int) (3 : Int)))) (Value.int
  IntKind.u8 (0 : Int))))) true (Ob.cells true)) (Int.toNat (IntKind.wrap IntKind.i64 ((16384 : Int) + tk.inside over (0 : Int) (3 : Int)))) /\ (0 <= 2000000 /\ Int.toNat
  (IntKind.wrap IntKind.i64 ((16384 : Int) + tk.inside over (0 : Int) (3 : Int))) <= 1000000))))))) /\ ((((True /\ ((0 + zPn (Row.mk [] true (Ob.cells true)) (Row.mk
  (List.take (Int.toNat (IntKind.wrap IntKind.i64 ((16384 : Int) + tk.inside over (0 : Int) (3 : Int))) * 1) (List.drop 0 (List.replicate (Int.toNat (IntKind.wrap
  IntKind.i64 ((16384 : Int) + tk.inside over (0 : Int) (3 : Int)))) (Value.int IntKind.u8 (0 : Int))))) true (Ob.cells true)) (0 : Int) (0 : Int) (1 : Int) * 1 <=
  List.length (bCells (zP (Row.mk [] true (Ob.cells true)) (Row.mk (List.take (Int.toNat (IntKind.wrap IntKind.i64 ((16384 : Int) + tk.inside over (0 : Int) (3 : Int))) * 1)
  (List.drop 0 (List.replicate (Int.toNat (IntKind.wrap IntKind.i64 ((16384 : Int) + tk.inside over (0 : Int) (3 : Int)))) (Value.int IntKind.u8 (0 : Int))))) true (Ob.cells
  true)) (0 : Int) (0 : Int) (1 : Int))) /\ Plain (List.take (zPn (Row.mk [] true (Ob.cells true)) (Row.mk (List.take (Int.toNat (IntKind.wrap IntKind.i64 ((16384 : Int) +
  tk.inside over (0 : Int) (3 : Int))) * 1) (List.drop 0 (List.replicate (Int.toNat (IntKind.wrap IntKind.i64 ((16384 : Int) + tk.inside over (0 : Int) (3 : Int))))
  (Value.int IntKind.u8 (0 : Int))))) true (Ob.cells true)) (0 : Int) (0 : Int) (1 : Int) * 1) (List.drop 0 (bCells (zP (Row.mk [] true (Ob.cells true)) (Row.mk (List.take
  (Int.toNat (IntKind.wrap IntKind.i64 ((16384 : Int) + tk.inside over (0 : Int) (3 : Int))) * 1) (List.drop 0 (List.replicate (Int.toNat (IntKind.wrap IntKind.i64 ((16384 :
  Int) + tk.inside over (0 : Int) (3 : Int)))) (Value.int IntKind.u8 (0 : Int))))) true (Ob.cells true)) (0 : Int) (0 : Int) (1 : Int)))))) /\ True)) /\ (((True /\ (True /\
  (True /\ (True /\ (True /\ (True /\ True)))))) /\ (True /\ True)) /\ ((Plain (bCells (zX (Row.mk [] false (Ob.cells true)) 0 (16384 : Int) (0 : Int) (Row.mk (List.take
  (zPn (Row.mk [] true (Ob.cells true)) (Row.mk (List.take (Int.toNat (IntKind.wrap IntKind.i64 ((16384 : Int) + tk.inside over (0 : Int) (3 : Int))) * 1) (List.drop 0
  (List.replicate (Int.toNat (IntKind.wrap IntKind.i64 ((16384 : Int) + tk.inside over (0 : Int) (3 : Int)))) (Value.int IntKind.u8 (0 : Int))))) true (Ob.cells true)) (0 :
  Int) (0 : Int) (1 : Int) * 1) (List.drop 0 (bCells (zP (Row.mk [] true (Ob.cells true)) (Row.mk (List.take (Int.toNat (IntKind.wrap IntKind.i64 ((16384 : Int) + tk.inside
  over (0 : Int) (3 : Int))) * 1) (List.drop 0 (List.replicate (Int.toNat (IntKind.wrap IntKind.i64 ((16384 : Int) + tk.inside over (0 : Int) (3 : Int)))) (Value.int
  IntKind.u8 (0 : Int))))) true (Ob.cells true)) (0 : Int) (0 : Int) (1 : Int))))) true (Ob.cells true)))) /\ (Plain (gC enG (zL (Row.mk [] false (Ob.cells true)) 0 (16384 :
  Int) (0 : Int) (Row.mk (List.take (zPn (Row.mk [] true (Ob.cells true)) (Row.mk (List.take (Int.toNat (IntKind.wrap IntKind.i64 ((16384 : Int) + tk.inside over (0 : Int)
  (3 : Int))) * 1) (List.drop 0 (List.replicate (Int.toNat (IntKind.wrap IntKind.i64 ((16384 : Int) + tk.inside over (0 : Int) (3 : Int)))) (Value.int IntKind.u8 (0 :
  Int))))) true (Ob.cells true)) (0 : Int) (0 : Int) (1 : Int) * 1) (List.drop 0 (bCells (zP (Row.mk [] true (Ob.cells true)) (Row.mk (List.take (Int.toNat (IntKind.wrap
  IntKind.i64 ((16384 : Int) + tk.inside over (0 : Int) (3 : Int))) * 1) (List.drop 0 (List.replicate (Int.toNat (IntKind.wrap IntKind.i64 ((16384 : Int) + tk.inside over (0
  : Int) (3 : Int)))) (Value.int IntKind.u8 (0 : Int))))) true (Ob.cells true)) (0 : Int) (0 : Int) (1 : Int))))) true (Ob.cells true)))) /\ True)) /\ (ByteArray.mk #[] =
  ByteArray.mk #[] /\ (IsB (Row.mk (List.take (zPn (Row.mk [] true (Ob.cells true)) (Row.mk (List.take (Int.toNat (IntKind.wrap IntKind.i64 ((16384 : Int) + tk.inside over
  (0 : Int) (3 : Int))) * 1) (List.drop 0 (List.replicate (Int.toNat (IntKind.wrap IntKind.i64 ((16384 : Int) + tk.inside over (0 : Int) (3 : Int)))) (Value.int IntKind.u8
  (0 : Int))))) true (Ob.cells true)) (0 : Int) (0 : Int) (1 : Int) * 1) (List.drop 0 (bCells (zP (Row.mk [] true (Ob.cells true)) (Row.mk (List.take (Int.toNat
  (IntKind.wrap IntKind.i64 ((16384 : Int) + tk.inside over (0 : Int) (3 : Int))) * 1) (List.drop 0 (List.replicate (Int.toNat (IntKind.wrap IntKind.i64 ((16384 : Int) +
  tk.inside over (0 : Int) (3 : Int)))) (Value.int IntKind.u8 (0 : Int))))) true (Ob.cells true)) (0 : Int) (0 : Int) (1 : Int))))) true (Ob.cells true)) (zPn (Row.mk []
  true (Ob.cells true)) (Row.mk (List.take (Int.toNat (IntKind.wrap IntKind.i64 ((16384 : Int) + tk.inside over (0 : Int) (3 : Int))) * 1) (List.drop 0 (List.replicate
  (Int.toNat (IntKind.wrap IntKind.i64 ((16384 : Int) + tk.inside over (0 : Int) (3 : Int)))) (Value.int IntKind.u8 (0 : Int))))) true (Ob.cells true)) (0 : Int) (0 : Int)
  (1 : Int)) /\ zPn (Row.mk [] true (Ob.cells true)) (Row.mk (List.take (Int.toNat (IntKind.wrap IntKind.i64 ((16384 : Int) + tk.inside over (0 : Int) (3 : Int))) * 1)
  (List.drop 0 (List.replicate (Int.toNat (IntKind.wrap IntKind.i64 ((16384 : Int) + tk.inside over (0 : Int) (3 : Int)))) (Value.int IntKind.u8 (0 : Int))))) true (Ob.cells
  true)) (0 : Int) (0 : Int) (1 : Int) <= 16777216)))))) /\ (br (tk.inside over (0 : Int) (3 : Int) == (0 : Int)) (br (Int.ofNat (zM (Row.mk [] false (Ob.cells true)) 0
  (16384 : Int) (0 : Int) (Row.mk (List.take (zPn (Row.mk [] true (Ob.cells true)) (Row.mk (List.take (Int.toNat (IntKind.wrap IntKind.i64 ((16384 : Int) + tk.inside over (0
  : Int) (3 : Int))) * 1) (List.drop 0 (List.replicate (Int.toNat (IntKind.wrap IntKind.i64 ((16384 : Int) + tk.inside over (0 : Int) (3 : Int)))) (Value.int IntKind.u8 (0 :
  Int))))) true (Ob.cells true)) (0 : Int) (0 : Int) (1 : Int) * 1) (List.drop 0 (bCells (zP (Row.mk [] true (Ob.cells true)) (Row.mk (List.take (Int.toNat (IntKind.wrap
  IntKind.i64 ((16384 : Int) + tk.inside over (0 : Int) (3 : Int))) * 1) (List.drop 0 (List.replicate (Int.toNat (IntKind.wrap IntKind.i64 ((16384 : Int) + tk.inside over (0
  : Int) (3 : Int)))) (Value.int IntKind.u8 (0 : Int))))) true (Ob.cells true)) (0 : Int) (0 : Int) (1 : Int))))) true (Ob.cells true))) == (1 : Int)) (br (decide ((0 : Int)
  <= (0 : Int) /\ (0 : Int) < (↑(zM (Row.mk [] false (Ob.cells true)) 0 (16384 : Int) (0 : Int) (Row.mk (List.take (zPn (Row.mk [] true (Ob.cells true)) (Row.mk (List.take
  (Int.toNat (IntKind.wrap IntKind.i64 ((16384 : Int) + tk.inside over (0 : Int) (3 : Int))) * 1) (List.drop 0 (List.replicate (Int.toNat (IntKind.wrap IntKind.i64 ((16384 :
  Int) + tk.inside over (0 : Int) (3 : Int)))) (Value.int IntKind.u8 (0 : Int))))) true (Ob.cells true)) (0 : Int) (0 : Int) (1 : Int) * 1) (List.drop 0 (bCells (zP (Row.mk
  [] true (Ob.cells true)) (Row.mk (List.take (Int.toNat (IntKind.wrap IntKind.i64 ((16384 : Int) + tk.inside over (0 : Int) (3 : Int))) * 1) (List.drop 0 (List.replicate
  (Int.toNat (IntKind.wrap IntKind.i64 ((16384 : Int) + tk.inside over (0 : Int) (3 : Int)))) (Value.int IntKind.u8 (0 : Int))))) true (Ob.cells true)) (0 : Int) (0 : Int)
  (1 : Int))))) true (Ob.cells true))) : Int))) ((Eq (α := Option Value) ((gC enG (zL (Row.mk [] false (Ob.cells true)) 0 (16384 : Int) (0 : Int) (Row.mk (List.take (zPn
  (Row.mk [] true (Ob.cells true)) (Row.mk (List.take (Int.toNat (IntKind.wrap IntKind.i64 ((16384 : Int) + tk.inside over (0 : Int) (3 : Int))) * 1) (List.drop 0
  (List.replicate (Int.toNat (IntKind.wrap IntKind.i64 ((16384 : Int) + tk.inside over (0 : Int) (3 : Int)))) (Value.int IntKind.u8 (0 : Int))))) true (Ob.cells true)) (0 :
  Int) (0 : Int) (1 : Int) * 1) (List.drop 0 (bCells (zP (Row.mk [] true (Ob.cells true)) (Row.mk (List.take (Int.toNat (IntKind.wrap IntKind.i64 ((16384 : Int) + tk.inside
  over (0 : Int) (3 : Int))) * 1) (List.drop 0 (List.replicate (Int.toNat (IntKind.wrap IntKind.i64 ((16384 : Int) + tk.inside over (0 : Int) (3 : Int)))) (Value.int
  IntKind.u8 (0 : Int))))) true (Ob.cells true)) (0 : Int) (0 : Int) (1 : Int))))) true (Ob.cells true))))[3]?) (some (Value.slice (some (Addr.mk (cellZ (gC enG (zL (Row.mk
  [] false (Ob.cells true)) 0 (16384 : Int) (0 : Int) (Row.mk (List.take (zPn (Row.mk [] true (Ob.cells true)) (Row.mk (List.take (Int.toNat (IntKind.wrap IntKind.i64
  ((16384 : Int) + tk.inside over (0 : Int) (3 : Int))) * 1) (List.drop 0 (List.replicate (Int.toNat (IntKind.wrap IntKind.i64 ((16384 : Int) + tk.inside over (0 : Int) (3 :
  Int)))) (Value.int IntKind.u8 (0 : Int))))) true (Ob.cells true)) (0 : Int) (0 : Int) (1 : Int) * 1) (List.drop 0 (bCells (zP (Row.mk [] true (Ob.cells true)) (Row.mk
  (List.take (Int.toNat (IntKind.wrap IntKind.i64 ((16384 : Int) + tk.inside over (0 : Int) (3 : Int))) * 1) (List.drop 0 (List.replicate (Int.toNat (IntKind.wrap
  IntKind.i64 ((16384 : Int) + tk.inside over (0 : Int) (3 : Int)))) (Value.int IntKind.u8 (0 : Int))))) true (Ob.cells true)) (0 : Int) (0 : Int) (1 : Int))))) true
  (Ob.cells true)))) 3) (cellO (gC enG (zL (Row.mk [] false (Ob.cells true)) 0 (16384 : Int) (0 : Int) (Row.mk (List.take (zPn (Row.mk [] true (Ob.cells true)) (Row.mk
  (List.take (Int.toNat (IntKind.wrap IntKind.i64 ((16384 : Int) + tk.inside over (0 : Int) (3 : Int))) * 1) (List.drop 0 (List.replicate (Int.toNat (IntKind.wrap
  IntKind.i64 ((16384 : Int) + tk.inside over (0 : Int) (3 : Int)))) (Value.int IntKind.u8 (0 : Int))))) true (Ob.cells true)) (0 : Int) (0 : Int) (1 : Int) * 1) (List.drop
  0 (bCells (zP (Row.mk [] true (Ob.cells true)) (Row.mk (List.take (Int.toNat (IntKind.wrap IntKind.i64 ((16384 : Int) + tk.inside over (0 : Int) (3 : Int))) * 1)
  (List.drop 0 (List.replicate (Int.toNat (IntKind.wrap IntKind.i64 ((16384 : Int) + tk.inside over (0 : Int) (3 : Int)))) (Value.int IntKind.u8 (0 : Int))))) true (Ob.cells
  true)) (0 : Int) (0 : Int) (1 : Int))))) true (Ob.cells true)))) 3) (some 0))) (cellN (gC enG (zL (Row.mk [] false (Ob.cells true)) 0 (16384 : Int) (0 : Int) (Row.mk
  (List.take (zPn (Row.mk [] true (Ob.cells true)) (Row.mk (List.take (Int.toNat (IntKind.wrap IntKind.i64 ((16384 : Int) + tk.inside over (0 : Int) (3 : Int))) * 1)
  (List.drop 0 (List.replicate (Int.toNat (IntKind.wrap IntKind.i64 ((16384 : Int) + tk.inside over (0 : Int) (3 : Int)))) (Value.int IntKind.u8 (0 : Int))))) true (Ob.cells
  true)) (0 : Int) (0 : Int) (1 : Int) * 1) (List.drop 0 (bCells (zP (Row.mk [] true (Ob.cells true)) (Row.mk (List.take (Int.toNat (IntKind.wrap IntKind.i64 ((16384 : Int)
  + tk.inside over (0 : Int) (3 : Int))) * 1) (List.drop 0 (List.replicate (Int.toNat (IntKind.wrap IntKind.i64 ((16384 : Int) + tk.inside over (0 : Int) (3 : Int))))
  (Value.int IntKind.u8 (0 : Int))))) true (Ob.cells true)) (0 : Int) (0 : Int) (1 : Int))))) true (Ob.cells true)))) 3) 1))) /\ (br (Int.ofNat (cellN (gC enG (zL (Row.mk []
  false (Ob.cells true)) 0 (16384 : Int) (0 : Int) (Row.mk (List.take (zPn (Row.mk [] true (Ob.cells true)) (Row.mk (List.take (Int.toNat (IntKind.wrap IntKind.i64 ((16384 :
  Int) + tk.inside over (0 : Int) (3 : Int))) * 1) (List.drop 0 (List.replicate (Int.toNat (IntKind.wrap IntKind.i64 ((16384 : Int) + tk.inside over (0 : Int) (3 : Int))))
  (Value.int IntKind.u8 (0 : Int))))) true (Ob.cells true)) (0 : Int) (0 : Int) (1 : Int) * 1) (List.drop 0 (bCells (zP (Row.mk [] true (Ob.cells true)) (Row.mk (List.take
  (Int.toNat (IntKind.wrap IntKind.i64 ((16384 : Int) + tk.inside over (0 : Int) (3 : Int))) * 1) (List.drop 0 (List.replicate (Int.toNat (IntKind.wrap IntKind.i64 ((16384 :
  Int) + tk.inside over (0 : Int) (3 : Int)))) (Value.int IntKind.u8 (0 : Int))))) true (Ob.cells true)) (0 : Int) (0 : Int) (1 : Int))))) true (Ob.cells true)))) 3) ==
  (16384 : Int)) (br (zB (Row.mk [] false (Ob.cells true)) 0 (16384 : Int) (0 : Int) (Row.mk (List.take (zPn (Row.mk [] true (Ob.cells true)) (Row.mk (List.take (Int.toNat
  (IntKind.wrap IntKind.i64 ((16384 : Int) + tk.inside over (0 : Int) (3 : Int))) * 1) (List.drop 0 (List.replicate (Int.toNat (IntKind.wrap IntKind.i64 ((16384 : Int) +
  tk.inside over (0 : Int) (3 : Int)))) (Value.int IntKind.u8 (0 : Int))))) true (Ob.cells true)) (0 : Int) (0 : Int) (1 : Int) * 1) (List.drop 0 (bCells (zP (Row.mk [] true
  (Ob.cells true)) (Row.mk (List.take (Int.toNat (IntKind.wrap IntKind.i64 ((16384 : Int) + tk.inside over (0 : Int) (3 : Int))) * 1) (List.drop 0 (List.replicate (Int.toNat
  (IntKind.wrap IntKind.i64 ((16384 : Int) + tk.inside over (0 : Int) (3 : Int)))) (Value.int IntKind.u8 (0 : Int))))) true (Ob.cells true)) (0 : Int) (0 : Int) (1 :
  Int))))) true (Ob.cells true)) == (0 : Int) && (zC (Row.mk [] false (Ob.cells true)) 0 (16384 : Int) (0 : Int) (Row.mk (List.take (zPn (Row.mk [] true (Ob.cells true))
  (Row.mk (List.take (Int.toNat (IntKind.wrap IntKind.i64 ((16384 : Int) + tk.inside over (0 : Int) (3 : Int))) * 1) (List.drop 0 (List.replicate (Int.toNat (IntKind.wrap
  IntKind.i64 ((16384 : Int) + tk.inside over (0 : Int) (3 : Int)))) (Value.int IntKind.u8 (0 : Int))))) true (Ob.cells true)) (0 : Int) (0 : Int) (1 : Int) * 1) (List.drop
  0 (bCells (zP (Row.mk [] true (Ob.cells true)) (Row.mk (List.take (Int.toNat (IntKind.wrap IntKind.i64 ((16384 : Int) + tk.inside over (0 : Int) (3 : Int))) * 1)
  (List.drop 0 (List.replicate (Int.toNat (IntKind.wrap IntKind.i64 ((16384 : Int) + tk.inside over (0 : Int) (3 : Int)))) (Value.int IntKind.u8 (0 : Int))))) true (Ob.cells
  true)) (0 : Int) (0 : Int) (1 : Int))))) true (Ob.cells true)) == (0 : Int) && true)) (((True /\ (True /\ (True /\ True)))) /\ ((true = true) /\ ((Eq (α := List Value)
  (bCells l) (bCells l)) /\ ((Plain (bCells l)) /\ True)))) ((true = false) /\ ((Eq (α := List Value) (bCells l) (bCells l)) /\ ((Plain (bCells l)) /\ True)))) ((true =
  false) /\ ((Eq (α := List Value) (bCells l) (bCells l)) /\ ((Plain (bCells l)) /\ True))))) False) ((true = false) /\ ((Eq (α := List Value) (bCells l) (bCells l)) /\
  ((Plain (bCells l)) /\ True)))) ((((True /\ ((0 + List.length l * 1 <= List.length (bCells l) /\ Plain (List.take (List.length l * 1) (List.drop 0 (bCells l)))) /\ True))
  /\ (((True /\ (True /\ (True /\ (True /\ (True /\ (True /\ True)))))) /\ (True /\ (Plain (bCells (zX (Row.mk [] false (Ob.cells true)) 0 (16384 : Int) (0 : Int) (Row.mk
  (List.take (zPn (Row.mk [] true (Ob.cells true)) (Row.mk (List.take (Int.toNat (IntKind.wrap IntKind.i64 ((16384 : Int) + tk.inside over (0 : Int) (3 : Int))) * 1)
  (List.drop 0 (List.replicate (Int.toNat (IntKind.wrap IntKind.i64 ((16384 : Int) + tk.inside over (0 : Int) (3 : Int)))) (Value.int IntKind.u8 (0 : Int))))) true (Ob.cells
  true)) (0 : Int) (0 : Int) (1 : Int) * 1) (List.drop 0 (bCells (zP (Row.mk [] true (Ob.cells true)) (Row.mk (List.take (Int.toNat (IntKind.wrap IntKind.i64 ((16384 : Int)
  + tk.inside over (0 : Int) (3 : Int))) * 1) (List.drop 0 (List.replicate (Int.toNat (IntKind.wrap IntKind.i64 ((16384 : Int) + tk.inside over (0 : Int) (3 : Int))))
  (Value.int IntKind.u8 (0 : Int))))) true (Ob.cells true)) (0 : Int) (0 : Int) (1 : Int))))) true (Ob.cells true)))) /\ True))) /\ ((Plain (bCells (zX (Row.mk (bCells (zX
  (Row.mk [] false (Ob.cells true)) 0 (16384 : Int) (0 : Int) (Row.mk (List.take (zPn (Row.mk [] true (Ob.cells true)) (Row.mk (List.take (Int.toNat (IntKind.wrap
  IntKind.i64 ((16384 : Int) + tk.inside over (0 : Int) (3 : Int))) * 1) (List.drop 0 (List.replicate (Int.toNat (IntKind.wrap IntKind.i64 ((16384 : Int) + tk.inside over (0
  : Int) (3 : Int)))) (Value.int IntKind.u8 (0 : Int))))) true (Ob.cells true)) (0 : Int) (0 : Int) (1 : Int) * 1) (List.drop 0 (bCells (zP (Row.mk [] true (Ob.cells true))
  (Row.mk (List.take (Int.toNat (IntKind.wrap IntKind.i64 ((16384 : Int) + tk.inside over (0 : Int) (3 : Int))) * 1) (List.drop 0 (List.replicate (Int.toNat (IntKind.wrap
  IntKind.i64 ((16384 : Int) + tk.inside over (0 : Int) (3 : Int)))) (Value.int IntKind.u8 (0 : Int))))) true (Ob.cells true)) (0 : Int) (0 : Int) (1 : Int))))) true
  (Ob.cells true)))) false (Ob.cells true)) (0 + zK (Row.mk [] false (Ob.cells true)) 0 (16384 : Int) (0 : Int) (Row.mk (List.take (zPn (Row.mk [] true (Ob.cells true))
  (Row.mk (List.take (Int.toNat (IntKind.wrap IntKind.i64 ((16384 : Int) + tk.inside over (0 : Int) (3 : Int))) * 1) (List.drop 0 (List.replicate (Int.toNat (IntKind.wrap
  IntKind.i64 ((16384 : Int) + tk.inside over (0 : Int) (3 : Int)))) (Value.int IntKind.u8 (0 : Int))))) true (Ob.cells true)) (0 : Int) (0 : Int) (1 : Int) * 1) (List.drop
  0 (bCells (zP (Row.mk [] true (Ob.cells true)) (Row.mk (List.take (Int.toNat (IntKind.wrap IntKind.i64 ((16384 : Int) + tk.inside over (0 : Int) (3 : Int))) * 1)
  (List.drop 0 (List.replicate (Int.toNat (IntKind.wrap IntKind.i64 ((16384 : Int) + tk.inside over (0 : Int) (3 : Int)))) (Value.int IntKind.u8 (0 : Int))))) true (Ob.cells
  true)) (0 : Int) (0 : Int) (1 : Int))))) true (Ob.cells true))) (16384 : Int) (zB (Row.mk [] false (Ob.cells true)) 0 (16384 : Int) (0 : Int) (Row.mk (List.take (zPn
  (Row.mk [] true (Ob.cells true)) (Row.mk (List.take (Int.toNat (IntKind.wrap IntKind.i64 ((16384 : Int) + tk.inside over (0 : Int) (3 : Int))) * 1) (List.drop 0
  (List.replicate (Int.toNat (IntKind.wrap IntKind.i64 ((16384 : Int) + tk.inside over (0 : Int) (3 : Int)))) (Value.int IntKind.u8 (0 : Int))))) true (Ob.cells true)) (0 :
  Int) (0 : Int) (1 : Int) * 1) (List.drop 0 (bCells (zP (Row.mk [] true (Ob.cells true)) (Row.mk (List.take (Int.toNat (IntKind.wrap IntKind.i64 ((16384 : Int) + tk.inside
  over (0 : Int) (3 : Int))) * 1) (List.drop 0 (List.replicate (Int.toNat (IntKind.wrap IntKind.i64 ((16384 : Int) + tk.inside over (0 : Int) (3 : Int)))) (Value.int
  IntKind.u8 (0 : Int))))) true (Ob.cells true)) (0 : Int) (0 : Int) (1 : Int))))) true (Ob.cells true))) (Row.mk (List.take (List.length l * 1) (List.drop 0 (bCells l)))
  true (Ob.cells true)))) /\ (Plain (gC enG (zL (Row.mk (bCells (zX (Row.mk [] false (Ob.cells true)) 0 (16384 : Int) (0 : Int) (Row.mk (List.take (zPn (Row.mk [] true
  (Ob.cells true)) (Row.mk (List.take (Int.toNat (IntKind.wrap IntKind.i64 ((16384 : Int) + tk.inside over (0 : Int) (3 : Int))) * 1) (List.drop 0 (List.replicate (Int.toNat
  (IntKind.wrap IntKind.i64 ((16384 : Int) + tk.inside over (0 : Int) (3 : Int)))) (Value.int IntKind.u8 (0 : Int))))) true (Ob.cells true)) (0 : Int) (0 : Int) (1 : Int) *
  1) (List.drop 0 (bCells (zP (Row.mk [] true (Ob.cells true)) (Row.mk (List.take (Int.toNat (IntKind.wrap IntKind.i64 ((16384 : Int) + tk.inside over (0 : Int) (3 : Int)))
  * 1) (List.drop 0 (List.replicate (Int.toNat (IntKind.wrap IntKind.i64 ((16384 : Int) + tk.inside over (0 : Int) (3 : Int)))) (Value.int IntKind.u8 (0 : Int))))) true
  (Ob.cells true)) (0 : Int) (0 : Int) (1 : Int))))) true (Ob.cells true)))) false (Ob.cells true)) (0 + zK (Row.mk [] false (Ob.cells true)) 0 (16384 : Int) (0 : Int)
  (Row.mk (List.take (zPn (Row.mk [] true (Ob.cells true)) (Row.mk (List.take (Int.toNat (IntKind.wrap IntKind.i64 ((16384 : Int) + tk.inside over (0 : Int) (3 : Int))) * 1)
  (List.drop 0 (List.replicate (Int.toNat (IntKind.wrap IntKind.i64 ((16384 : Int) + tk.inside over (0 : Int) (3 : Int)))) (Value.int IntKind.u8 (0 : Int))))) true (Ob.cells
  true)) (0 : Int) (0 : Int) (1 : Int) * 1) (List.drop 0 (bCells (zP (Row.mk [] true (Ob.cells true)) (Row.mk (List.take (Int.toNat (IntKind.wrap IntKind.i64 ((16384 : Int)
  + tk.inside over (0 : Int) (3 : Int))) * 1) (List.drop 0 (List.replicate (Int.toNat (IntKind.wrap IntKind.i64 ((16384 : Int) + tk.inside over (0 : Int) (3 : Int))))
  (Value.int IntKind.u8 (0 : Int))))) true (Ob.cells true)) (0 : Int) (0 : Int) (1 : Int))))) true (Ob.cells true))) (16384 : Int) (zB (Row.mk [] false (Ob.cells true)) 0
  (16384 : Int) (0 : Int) (Row.mk (List.take (zPn (Row.mk [] true (Ob.cells true)) (Row.mk (List.take (Int.toNat (IntKind.wrap IntKind.i64 ((16384 : Int) + tk.inside over (0
  : Int) (3 : Int))) * 1) (List.drop 0 (List.replicate (Int.toNat (IntKind.wrap IntKind.i64 ((16384 : Int) + tk.inside over (0 : Int) (3 : Int)))) (Value.int IntKind.u8 (0 :
  Int))))) true (Ob.cells true)) (0 : Int) (0 : Int) (1 : Int) * 1) (List.drop 0 (bCells (zP (Row.mk [] true (Ob.cells true)) (Row.mk (List.take (Int.toNat (IntKind.wrap
  IntKind.i64 ((16384 : Int) + tk.inside over (0 : Int) (3 : Int))) * 1) (List.drop 0 (List.replicate (Int.toNat (IntKind.wrap IntKind.i64 ((16384 : Int) + tk.inside over (0
  : Int) (3 : Int)))) (Value.int IntKind.u8 (0 : Int))))) true (Ob.cells true)) (0 : Int) (0 : Int) (1 : Int))))) true (Ob.cells true))) (Row.mk (List.take (List.length l *
  1) (List.drop 0 (bCells l))) true (Ob.cells true)))) /\ True)) /\ (ByteArray.mk #[] = ByteArray.mk #[] /\ IsR (Row.mk (bCells (zX (Row.mk [] false (Ob.cells true)) 0
  (16384 : Int) (0 : Int) (Row.mk (List.take (zPn (Row.mk [] true (Ob.cells true)) (Row.mk (List.take (Int.toNat (IntKind.wrap IntKind.i64 ((16384 : Int) + tk.inside over (0
  : Int) (3 : Int))) * 1) (List.drop 0 (List.replicate (Int.toNat (IntKind.wrap IntKind.i64 ((16384 : Int) + tk.inside over (0 : Int) (3 : Int)))) (Value.int IntKind.u8 (0 :
  Int))))) true (Ob.cells true)) (0 : Int) (0 : Int) (1 : Int) * 1) (List.drop 0 (bCells (zP (Row.mk [] true (Ob.cells true)) (Row.mk (List.take (Int.toNat (IntKind.wrap
  IntKind.i64 ((16384 : Int) + tk.inside over (0 : Int) (3 : Int))) * 1) (List.drop 0 (List.replicate (Int.toNat (IntKind.wrap IntKind.i64 ((16384 : Int) + tk.inside over (0
  : Int) (3 : Int)))) (Value.int IntKind.u8 (0 : Int))))) true (Ob.cells true)) (0 : Int) (0 : Int) (1 : Int))))) true (Ob.cells true)))) false (Ob.cells true)) (0 + zK
  (Row.mk [] false (Ob.cells true)) 0 (16384 : Int) (0 : Int) (Row.mk (List.take (zPn (Row.mk [] true (Ob.cells true)) (Row.mk (List.take (Int.toNat (IntKind.wrap
  IntKind.i64 ((16384 : Int) + tk.inside over (0 : Int) (3 : Int))) * 1) (List.drop 0 (List.replicate (Int.toNat (IntKind.wrap IntKind.i64 ((16384 : Int) + tk.inside over (0
  : Int) (3 : Int)))) (Value.int IntKind.u8 (0 : Int))))) true (Ob.cells true)) (0 : Int) (0 : Int) (1 : Int) * 1) (List.drop 0 (bCells (zP (Row.mk [] true (Ob.cells true))
  (Row.mk (List.take (Int.toNat (IntKind.wrap IntKind.i64 ((16384 : Int) + tk.inside over (0 : Int) (3 : Int))) * 1) (List.drop 0 (List.replicate (Int.toNat (IntKind.wrap
  IntKind.i64 ((16384 : Int) + tk.inside over (0 : Int) (3 : Int)))) (Value.int IntKind.u8 (0 : Int))))) true (Ob.cells true)) (0 : Int) (0 : Int) (1 : Int))))) true
  (Ob.cells true))) (zN (Row.mk [] false (Ob.cells true)) 0 (16384 : Int) (0 : Int) (Row.mk (List.take (zPn (Row.mk [] true (Ob.cells true)) (Row.mk (List.take (Int.toNat
  (IntKind.wrap IntKind.i64 ((16384 : Int) + tk.inside over (0 : Int) (3 : Int))) * 1) (List.drop 0 (List.replicate (Int.toNat (IntKind.wrap IntKind.i64 ((16384 : Int) +
  tk.inside over (0 : Int) (3 : Int)))) (Value.int IntKind.u8 (0 : Int))))) true (Ob.cells true)) (0 : Int) (0 : Int) (1 : Int) * 1) (List.drop 0 (bCells (zP (Row.mk [] true
  (Ob.cells true)) (Row.mk (List.take (Int.toNat (IntKind.wrap IntKind.i64 ((16384 : Int) + tk.inside over (0 : Int) (3 : Int))) * 1) (List.drop 0 (List.replicate (Int.toNat
  (IntKind.wrap IntKind.i64 ((16384 : Int) + tk.inside over (0 : Int) (3 : Int)))) (Value.int IntKind.u8 (0 : Int))))) true (Ob.cells true)) (0 : Int) (0 : Int) (1 :
  Int))))) true (Ob.cells true))) (zB (Row.mk [] false (Ob.cells true)) 0 (16384 : Int) (0 : Int) (Row.mk (List.take (zPn (Row.mk [] true (Ob.cells true)) (Row.mk (List.take
  (Int.toNat (IntKind.wrap IntKind.i64 ((16384 : Int) + tk.inside over (0 : Int) (3 : Int))) * 1) (List.drop 0 (List.replicate (Int.toNat (IntKind.wrap IntKind.i64 ((16384 :
  Int) + tk.inside over (0 : Int) (3 : Int)))) (Value.int IntKind.u8 (0 : Int))))) true (Ob.cells true)) (0 : Int) (0 : Int) (1 : Int) * 1) (List.drop 0 (bCells (zP (Row.mk
  [] true (Ob.cells true)) (Row.mk (List.take (Int.toNat (IntKind.wrap IntKind.i64 ((16384 : Int) + tk.inside over (0 : Int) (3 : Int))) * 1) (List.drop 0 (List.replicate
  (Int.toNat (IntKind.wrap IntKind.i64 ((16384 : Int) + tk.inside over (0 : Int) (3 : Int)))) (Value.int IntKind.u8 (0 : Int))))) true (Ob.cells true)) (0 : Int) (0 : Int)
  (1 : Int))))) true (Ob.cells true))) (zC (Row.mk [] false (Ob.cells true)) 0 (16384 : Int) (0 : Int) (Row.mk (List.take (zPn (Row.mk [] true (Ob.cells true)) (Row.mk
  (List.take (Int.toNat (IntKind.wrap IntKind.i64 ((16384 : Int) + tk.inside over (0 : Int) (3 : Int))) * 1) (List.drop 0 (List.replicate (Int.toNat (IntKind.wrap
  IntKind.i64 ((16384 : Int) + tk.inside over (0 : Int) (3 : Int)))) (Value.int IntKind.u8 (0 : Int))))) true (Ob.cells true)) (0 : Int) (0 : Int) (1 : Int) * 1) (List.drop
  0 (bCells (zP (Row.mk [] true (Ob.cells true)) (Row.mk (List.take (Int.toNat (IntKind.wrap IntKind.i64 ((16384 : Int) + tk.inside over (0 : Int) (3 : Int))) * 1)
  (List.drop 0 (List.replicate (Int.toNat (IntKind.wrap IntKind.i64 ((16384 : Int) + tk.inside over (0 : Int) (3 : Int)))) (Value.int IntKind.u8 (0 : Int))))) true (Ob.cells
  true)) (0 : Int) (0 : Int) (1 : Int))))) true (Ob.cells true))) (Row.mk (List.take (List.length l * 1) (List.drop 0 (bCells l))) true (Ob.cells true)) (List.length l))))))
  /\ (br (Int.ofNat (zM (Row.mk [] false (Ob.cells true)) 0 (16384 : Int) (0 : Int) (Row.mk (List.take (zPn (Row.mk [] true (Ob.cells true)) (Row.mk (List.take (Int.toNat
  (IntKind.wrap IntKind.i64 ((16384 : Int) + tk.inside over (0 : Int) (3 : Int))) * 1) (List.drop 0 (List.replicate (Int.toNat (IntKind.wrap IntKind.i64 ((16384 : Int) +
  tk.inside over (0 : Int) (3 : Int)))) (Value.int IntKind.u8 (0 : Int))))) true (Ob.cells true)) (0 : Int) (0 : Int) (1 : Int) * 1) (List.drop 0 (bCells (zP (Row.mk [] true
  (Ob.cells true)) (Row.mk (List.take (Int.toNat (IntKind.wrap IntKind.i64 ((16384 : Int) + tk.inside over (0 : Int) (3 : Int))) * 1) (List.drop 0 (List.replicate (Int.toNat
  (IntKind.wrap IntKind.i64 ((16384 : Int) + tk.inside over (0 : Int) (3 : Int)))) (Value.int IntKind.u8 (0 : Int))))) true (Ob.cells true)) (0 : Int) (0 : Int) (1 :
  Int))))) true (Ob.cells true))) == (0 : Int)) (br (zB (Row.mk [] false (Ob.cells true)) 0 (16384 : Int) (0 : Int) (Row.mk (List.take (zPn (Row.mk [] true (Ob.cells true))
  (Row.mk (List.take (Int.toNat (IntKind.wrap IntKind.i64 ((16384 : Int) + tk.inside over (0 : Int) (3 : Int))) * 1) (List.drop 0 (List.replicate (Int.toNat (IntKind.wrap
  IntKind.i64 ((16384 : Int) + tk.inside over (0 : Int) (3 : Int)))) (Value.int IntKind.u8 (0 : Int))))) true (Ob.cells true)) (0 : Int) (0 : Int) (1 : Int) * 1) (List.drop
  0 (bCells (zP (Row.mk [] true (Ob.cells true)) (Row.mk (List.take (Int.toNat (IntKind.wrap IntKind.i64 ((16384 : Int) + tk.inside over (0 : Int) (3 : Int))) * 1)
  (List.drop 0 (List.replicate (Int.toNat (IntKind.wrap IntKind.i64 ((16384 : Int) + tk.inside over (0 : Int) (3 : Int)))) (Value.int IntKind.u8 (0 : Int))))) true (Ob.cells
  true)) (0 : Int) (0 : Int) (1 : Int))))) true (Ob.cells true)) == (2 : Int) && (zC (Row.mk [] false (Ob.cells true)) 0 (16384 : Int) (0 : Int) (Row.mk (List.take (zPn
  (Row.mk [] true (Ob.cells true)) (Row.mk (List.take (Int.toNat (IntKind.wrap IntKind.i64 ((16384 : Int) + tk.inside over (0 : Int) (3 : Int))) * 1) (List.drop 0
  (List.replicate (Int.toNat (IntKind.wrap IntKind.i64 ((16384 : Int) + tk.inside over (0 : Int) (3 : Int)))) (Value.int IntKind.u8 (0 : Int))))) true (Ob.cells true)) (0 :
  Int) (0 : Int) (1 : Int) * 1) (List.drop 0 (bCells (zP (Row.mk [] true (Ob.cells true)) (Row.mk (List.take (Int.toNat (IntKind.wrap IntKind.i64 ((16384 : Int) + tk.inside
  over (0 : Int) (3 : Int))) * 1) (List.drop 0 (List.replicate (Int.toNat (IntKind.wrap IntKind.i64 ((16384 : Int) + tk.inside over (0 : Int) (3 : Int)))) (Value.int
  IntKind.u8 (0 : Int))))) true (Ob.cells true)) (0 : Int) (0 : Int) (1 : Int))))) true (Ob.cells true)) == (6 : Int) && true)) (br (Int.ofNat (zM (Row.mk (bCells (zX
  (Row.mk [] false (Ob.cells true)) 0 (16384 : Int) (0 : Int) (Row.mk (List.take (zPn (Row.mk [] true (Ob.cells true)) (Row.mk (List.take (Int.toNat (IntKind.wrap
  IntKind.i64 ((16384 : Int) + tk.inside over (0 : Int) (3 : Int))) * 1) (List.drop 0 (List.replicate (Int.toNat (IntKind.wrap IntKind.i64 ((16384 : Int) + tk.inside over (0
  : Int) (3 : Int)))) (Value.int IntKind.u8 (0 : Int))))) true (Ob.cells true)) (0 : Int) (0 : Int) (1 : Int) * 1) (List.drop 0 (bCells (zP (Row.mk [] true (Ob.cells true))
  (Row.mk (List.take (Int.toNat (IntKind.wrap IntKind.i64 ((16384 : Int) + tk.inside over (0 : Int) (3 : Int))) * 1) (List.drop 0 (List.replicate (Int.toNat (IntKind.wrap
  IntKind.i64 ((16384 : Int) + tk.inside over (0 : Int) (3 : Int)))) (Value.int IntKind.u8 (0 : Int))))) true (Ob.cells true)) (0 : Int) (0 : Int) (1 : Int))))) true
  (Ob.cells true)))) false (Ob.cells true)) (0 + zK (Row.mk [] false (Ob.cells true)) 0 (16384 : Int) (0 : Int) (Row.mk (List.take (zPn (Row.mk [] true (Ob.cells true))
  (Row.mk (List.take (Int.toNat (IntKind.wrap IntKind.i64 ((16384 : Int) + tk.inside over (0 : Int) (3 : Int))) * 1) (List.drop 0 (List.replicate (Int.toNat (IntKind.wrap
  IntKind.i64 ((16384 : Int) + tk.inside over (0 : Int) (3 : Int)))) (Value.int IntKind.u8 (0 : Int))))) true (Ob.cells true)) (0 : Int) (0 : Int) (1 : Int) * 1) (List.drop
  0 (bCells (zP (Row.mk [] true (Ob.cells true)) (Row.mk (List.take (Int.toNat (IntKind.wrap IntKind.i64 ((16384 : Int) + tk.inside over (0 : Int) (3 : Int))) * 1)
  (List.drop 0 (List.replicate (Int.toNat (IntKind.wrap IntKind.i64 ((16384 : Int) + tk.inside over (0 : Int) (3 : Int)))) (Value.int IntKind.u8 (0 : Int))))) true (Ob.cells
  true)) (0 : Int) (0 : Int) (1 : Int))))) true (Ob.cells true))) (16384 : Int) (zB (Row.mk [] false (Ob.cells true)) 0 (16384 : Int) (0 : Int) (Row.mk (List.take (zPn
  (Row.mk [] true (Ob.cells true)) (Row.mk (List.take (Int.toNat (IntKind.wrap IntKind.i64 ((16384 : Int) + tk.inside over (0 : Int) (3 : Int))) * 1) (List.drop 0
  (List.replicate (Int.toNat (IntKind.wrap IntKind.i64 ((16384 : Int) + tk.inside over (0 : Int) (3 : Int)))) (Value.int IntKind.u8 (0 : Int))))) true (Ob.cells true)) (0 :
  Int) (0 : Int) (1 : Int) * 1) (List.drop 0 (bCells (zP (Row.mk [] true (Ob.cells true)) (Row.mk (List.take (Int.toNat (IntKind.wrap IntKind.i64 ((16384 : Int) + tk.inside
  over (0 : Int) (3 : Int))) * 1) (List.drop 0 (List.replicate (Int.toNat (IntKind.wrap IntKind.i64 ((16384 : Int) + tk.inside over (0 : Int) (3 : Int)))) (Value.int
  IntKind.u8 (0 : Int))))) true (Ob.cells true)) (0 : Int) (0 : Int) (1 : Int))))) true (Ob.cells true))) (Row.mk (List.take (List.length l * 1) (List.drop 0 (bCells l)))
  true (Ob.cells true))) == (0 : Int)) (br (zB (Row.mk (bCells (zX (Row.mk [] false (Ob.cells true)) 0 (16384 : Int) (0 : Int) (Row.mk (List.take (zPn (Row.mk [] true
  (Ob.cells true)) (Row.mk (List.take (Int.toNat (IntKind.wrap IntKind.i64 ((16384 : Int) + tk.inside over (0 : Int) (3 : Int))) * 1) (List.drop 0 (List.replicate (Int.toNat
  (IntKind.wrap IntKind.i64 ((16384 : Int) + tk.inside over (0 : Int) (3 : Int)))) (Value.int IntKind.u8 (0 : Int))))) true (Ob.cells true)) (0 : Int) (0 : Int) (1 : Int) *
  1) (List.drop 0 (bCells (zP (Row.mk [] true (Ob.cells true)) (Row.mk (List.take (Int.toNat (IntKind.wrap IntKind.i64 ((16384 : Int) + tk.inside over (0 : Int) (3 : Int)))
  * 1) (List.drop 0 (List.replicate (Int.toNat (IntKind.wrap IntKind.i64 ((16384 : Int) + tk.inside over (0 : Int) (3 : Int)))) (Value.int IntKind.u8 (0 : Int))))) true
  (Ob.cells true)) (0 : Int) (0 : Int) (1 : Int))))) true (Ob.cells true)))) false (Ob.cells true)) (0 + zK (Row.mk [] false (Ob.cells true)) 0 (16384 : Int) (0 : Int)
  (Row.mk (List.take (zPn (Row.mk [] true (Ob.cells true)) (Row.mk (List.take (Int.toNat (IntKind.wrap IntKind.i64 ((16384 : Int) + tk.inside over (0 : Int) (3 : Int))) * 1)
  (List.drop 0 (List.replicate (Int.toNat (IntKind.wrap IntKind.i64 ((16384 : Int) + tk.inside over (0 : Int) (3 : Int)))) (Value.int IntKind.u8 (0 : Int))))) true (Ob.cells
  true)) (0 : Int) (0 : Int) (1 : Int) * 1) (List.drop 0 (bCells (zP (Row.mk [] true (Ob.cells true)) (Row.mk (List.take (Int.toNat (IntKind.wrap IntKind.i64 ((16384 : Int)
  + tk.inside over (0 : Int) (3 : Int))) * 1) (List.drop 0 (List.replicate (Int.toNat (IntKind.wrap IntKind.i64 ((16384 : Int) + tk.inside over (0 : Int) (3 : Int))))
  (Value.int IntKind.u8 (0 : Int))))) true (Ob.cells true)) (0 : Int) (0 : Int) (1 : Int))))) true (Ob.cells true))) (16384 : Int) (zB (Row.mk [] false (Ob.cells true)) 0
  (16384 : Int) (0 : Int) (Row.mk (List.take (zPn (Row.mk [] true (Ob.cells true)) (Row.mk (List.take (Int.toNat (IntKind.wrap IntKind.i64 ((16384 : Int) + tk.inside over (0
  : Int) (3 : Int))) * 1) (List.drop 0 (List.replicate (Int.toNat (IntKind.wrap IntKind.i64 ((16384 : Int) + tk.inside over (0 : Int) (3 : Int)))) (Value.int IntKind.u8 (0 :
  Int))))) true (Ob.cells true)) (0 : Int) (0 : Int) (1 : Int) * 1) (List.drop 0 (bCells (zP (Row.mk [] true (Ob.cells true)) (Row.mk (List.take (Int.toNat (IntKind.wrap
  IntKind.i64 ((16384 : Int) + tk.inside over (0 : Int) (3 : Int))) * 1) (List.drop 0 (List.replicate (Int.toNat (IntKind.wrap IntKind.i64 ((16384 : Int) + tk.inside over (0
  : Int) (3 : Int)))) (Value.int IntKind.u8 (0 : Int))))) true (Ob.cells true)) (0 : Int) (0 : Int) (1 : Int))))) true (Ob.cells true))) (Row.mk (List.take (List.length l *
  1) (List.drop 0 (bCells l))) true (Ob.cells true)) == zB (Row.mk [] false (Ob.cells true)) 0 (16384 : Int) (0 : Int) (Row.mk (List.take (zPn (Row.mk [] true (Ob.cells
  true)) (Row.mk (List.take (Int.toNat (IntKind.wrap IntKind.i64 ((16384 : Int) + tk.inside over (0 : Int) (3 : Int))) * 1) (List.drop 0 (List.replicate (Int.toNat
  (IntKind.wrap IntKind.i64 ((16384 : Int) + tk.inside over (0 : Int) (3 : Int)))) (Value.int IntKind.u8 (0 : Int))))) true (Ob.cells true)) (0 : Int) (0 : Int) (1 : Int) *
  1) (List.drop 0 (bCells (zP (Row.mk [] true (Ob.cells true)) (Row.mk (List.take (Int.toNat (IntKind.wrap IntKind.i64 ((16384 : Int) + tk.inside over (0 : Int) (3 : Int)))
  * 1) (List.drop 0 (List.replicate (Int.toNat (IntKind.wrap IntKind.i64 ((16384 : Int) + tk.inside over (0 : Int) (3 : Int)))) (Value.int IntKind.u8 (0 : Int))))) true
  (Ob.cells true)) (0 : Int) (0 : Int) (1 : Int))))) true (Ob.cells true)) && (zC (Row.mk (bCells (zX (Row.mk [] false (Ob.cells true)) 0 (16384 : Int) (0 : Int) (Row.mk
  (List.take (zPn (Row.mk [] true (Ob.cells true)) (Row.mk (List.take (Int.toNat (IntKind.wrap IntKind.i64 ((16384 : Int) + tk.inside over (0 : Int) (3 : Int))) * 1)
  (List.drop 0 (List.replicate (Int.toNat (IntKind.wrap IntKind.i64 ((16384 : Int) + tk.inside over (0 : Int) (3 : Int)))) (Value.int IntKind.u8 (0 : Int))))) true (Ob.cells
  true)) (0 : Int) (0 : Int) (1 : Int) * 1) (List.drop 0 (bCells (zP (Row.mk [] true (Ob.cells true)) (Row.mk (List.take (Int.toNat (IntKind.wrap IntKind.i64 ((16384 : Int)
  + tk.inside over (0 : Int) (3 : Int))) * 1) (List.drop 0 (List.replicate (Int.toNat (IntKind.wrap IntKind.i64 ((16384 : Int) + tk.inside over (0 : Int) (3 : Int))))
  (Value.int IntKind.u8 (0 : Int))))) true (Ob.cells true)) (0 : Int) (0 : Int) (1 : Int))))) true (Ob.cells true)))) false (Ob.cells true)) (0 + zK (Row.mk [] false
  (Ob.cells true)) 0 (16384 : Int) (0 : Int) (Row.mk (List.take (zPn (Row.mk [] true (Ob.cells true)) (Row.mk (List.take (Int.toNat (IntKind.wrap IntKind.i64 ((16384 : Int)
  + tk.inside over (0 : Int) (3 : Int))) * 1) (List.drop 0 (List.replicate (Int.toNat (IntKind.wrap IntKind.i64 ((16384 : Int) + tk.inside over (0 : Int) (3 : Int))))
  (Value.int IntKind.u8 (0 : Int))))) true (Ob.cells true)) (0 : Int) (0 : Int) (1 : Int) * 1) (List.drop 0 (bCells (zP (Row.mk [] true (Ob.cells true)) (Row.mk (List.take
  (Int.toNat (IntKind.wrap IntKind.i64 ((16384 : Int) + tk.inside over (0 : Int) (3 : Int))) * 1) (List.drop 0 (List.replicate (Int.toNat (IntKind.wrap IntKind.i64 ((16384 :
  Int) + tk.inside over (0 : Int) (3 : Int)))) (Value.int IntKind.u8 (0 : Int))))) true (Ob.cells true)) (0 : Int) (0 : Int) (1 : Int))))) true (Ob.cells true))) (16384 :
  Int) (zB (Row.mk [] false (Ob.cells true)) 0 (16384 : Int) (0 : Int) (Row.mk (List.take (zPn (Row.mk [] true (Ob.cells true)) (Row.mk (List.take (Int.toNat (IntKind.wrap
  IntKind.i64 ((16384 : Int) + tk.inside over (0 : Int) (3 : Int))) * 1) (List.drop 0 (List.replicate (Int.toNat (IntKind.wrap IntKind.i64 ((16384 : Int) + tk.inside over (0
  : Int) (3 : Int)))) (Value.int IntKind.u8 (0 : Int))))) true (Ob.cells true)) (0 : Int) (0 : Int) (1 : Int) * 1) (List.drop 0 (bCells (zP (Row.mk [] true (Ob.cells true))
  (Row.mk (List.take (Int.toNat (IntKind.wrap IntKind.i64 ((16384 : Int) + tk.inside over (0 : Int) (3 : Int))) * 1) (List.drop 0 (List.replicate (Int.toNat (IntKind.wrap
  IntKind.i64 ((16384 : Int) + tk.inside over (0 : Int) (3 : Int)))) (Value.int IntKind.u8 (0 : Int))))) true (Ob.cells true)) (0 : Int) (0 : Int) (1 : Int))))) true
  (Ob.cells true))) (Row.mk (List.take (List.length l * 1) (List.drop 0 (bCells l))) true (Ob.cells true)) == zC (Row.mk [] false (Ob.cells true)) 0 (16384 : Int) (0 : Int)
  (Row.mk (List.take (zPn (Row.mk [] true (Ob.cells true)) (Row.mk (List.take (Int.toNat (IntKind.wrap IntKind.i64 ((16384 : Int) + tk.inside over (0 : Int) (3 : Int))) * 1)
  (List.drop 0 (List.replicate (Int.toNat (IntKind.wrap IntKind.i64 ((16384 : Int) + tk.inside over (0 : Int) (3 : Int)))) (Value.int IntKind.u8 (0 : Int))))) true (Ob.cells
  true)) (0 : Int) (0 : Int) (1 : Int) * 1) (List.drop 0 (bCells (zP (Row.mk [] true (Ob.cells true)) (Row.mk (List.take (Int.toNat (IntKind.wrap IntKind.i64 ((16384 : Int)
  + tk.inside over (0 : Int) (3 : Int))) * 1) (List.drop 0 (List.replicate (Int.toNat (IntKind.wrap IntKind.i64 ((16384 : Int) + tk.inside over (0 : Int) (3 : Int))))
  (Value.int IntKind.u8 (0 : Int))))) true (Ob.cells true)) (0 : Int) (0 : Int) (1 : Int))))) true (Ob.cells true)) && true)) (((True /\ (True /\ (True /\ True)))) /\ ((true
  = true) /\ ((Eq (α := List Value) (bCells l) (bCells l)) /\ ((Plain (bCells l)) /\ True)))) ((true = false) /\ ((Eq (α := List Value) (bCells l) (bCells l)) /\ ((Plain
  (bCells l)) /\ True)))) ((true = false) /\ ((Eq (α := List Value) (bCells l) (bCells l)) /\ ((Plain (bCells l)) /\ True)))) ((true = false) /\ ((Eq (α := List Value)
  (bCells l) (bCells l)) /\ ((Plain (bCells l)) /\ True)))) ((true = false) /\ ((Eq (α := List Value) (bCells l) (bCells l)) /\ ((Plain (bCells l)) /\ True)))))))) False))) := by kernel_rfl
theorem tL_ok : ∀ x ∈ tL, EntOk Try.prog x := all_cons eWiF_ok (all_cons eRunF_ok (all_cons ePut_ok (all_cons eFeed_ok (all_cons eSameF_ok (all_nil)))))
theorem Fl_law (over : Int) (l : List UInt8) (ho : I64 over) (_ : l.length ≤ maxLen) : Con Try.prog 9 [.int .i64 over, slc 0 l.length] [bRo l] (.bool true) [bRo l] := by
  refine con_vc (E := EtL) mixed (calls_envT tL_ok) (lok_envT _ _) (M := noM) lm_none (Fl_vc over l) ?_
  obtain ⟨i1, i2⟩ := Go.Proofs.Ytkeiogmapogpnaa.tk.inside_in over 0 3 (by omega)
  obtain ⟨K, hK⟩ := Int.eq_ofNat_of_zero_le i1
  have hK3 : K ≤ 3 := by omega
  have w : IntKind.i64.wrap (16384 + (K : Int)) = ((16384 + K : Nat) : Int) := by rw [wr64_id (by unfold I64; omega)]; omega
  have hrep : List.take (16384 + K) (List.replicate (16384 + K) (Value.int IntKind.u8 0)) = bCells (List.replicate (16384 + K) 0) := by rw [List.take_of_length_le (by rw [List.length_replicate]; exact Nat.le_refl _), bCells_rep]
  obtain ⟨B, hB⟩ : ∃ B, B = headB (16384 + K) 0 0 1 ++ (List.replicate (16384 + K) 0 ++ []) := ⟨_, rfl⟩
  have hBl : B.length = 9 + (16384 + K) := by rw [hB, List.length_append, List.length_append, List.length_replicate]; rfl
  have hz : zP ⟨[], true, .cells true⟩ ⟨bCells (List.replicate (16384 + K) 0), true, .cells true⟩ 0 0 1 = B := by
    rw [zP_nil]
    unfold frO
    rw [if_pos (by unfold rightB; rw [List.length_replicate]; exact decide_eq_true (by omega)), List.length_replicate, hB]
    simp
  have hzn : zPn ⟨[], true, .cells true⟩ ⟨bCells (List.replicate (16384 + K) 0), true, .cells true⟩ 0 0 1 = B.length := by unfold zPn; rw [hz]
  obtain ⟨e1, e2, e3, e4, e5, e6, e7⟩ := z_new 16384 B
  simp only [ofNat_eq, toNat_cast, Nat.zero_add, Nat.add_zero, Nat.mul_one, List.drop_zero, bCells_len, bCells_drop, bCells_take, bCells_app, bCells_one, bCells_plain, List.length_replicate, List.length_append, List.length_take, List.length_drop, List.take_length, and_true, true_and, and_self, decide_true, List.length_nil, List.length_cons, Nat.sub_zero, dB_mk, dB_ro, List.take_zero, hK, w, toNat_cast, hrep, hz, hzn, List.take_length, e1, e2, e3, e4, e5, e6, e7]
  have hP : (List.replicate (16384 + K) (0 : UInt8)).length = 16384 + K := List.length_replicate
  have hR0 : K = 0 → fdL 16384 ⟨[], 0, false⟩ B = [⟨0, 0, 1, List.replicate (16384 + K) 0⟩] ∧ fdB 16384 ⟨[], 0, false⟩ B = false := by
    intro h0
    have hr := run_one 16384 B.length (List.replicate (16384 + K) 0) [] 0 0 1 (by omega) (by omega) (by omega) (by rw [hP]; omega) (by rw [hP]; omega)
    rw [hP] at hr
    have hr := hr (by rw [hB]; exact Nat.le_refl _)
    rw [run_nil] at hr
    have hR : fdR 16384 ⟨[], 0, false⟩ B = ([⟨0, 0, 1, List.replicate (16384 + K) 0⟩], 9 + (16384 + K) + 0, false) := by
      rw [fdR_new]; conv => lhs; arg 3; rw [hB]
      exact hr
    unfold fdL fdB
    rw [hR]; exact ⟨rfl, rfl⟩
  have hR1 : K ≠ 0 → fdL 16384 ⟨[], 0, false⟩ B = [] ∧ fdB 16384 ⟨[], 0, false⟩ B = true ∧ fdS 16384 ⟨[], 0, false⟩ B = ⟨[], 0, true⟩ := by
    intro h0
    have hr := run_long 16384 B.length (List.replicate (16384 + K) 0) [] 0 0 1 (by omega) (by omega) (by omega) (by rw [hP]; omega) (by rw [hP]; omega)
    rw [hP] at hr
    have hr := hr (by rw [hB]; exact Nat.le_refl _)
    have hR : fdR 16384 ⟨[], 0, false⟩ B = ([], 0, true) := by
      rw [fdR_new]; conv => lhs; arg 3; rw [hB]
      exact hr
    unfold fdL fdB fdS
    rw [hR]; exact ⟨rfl, rfl, rfl⟩
  refine ⟨⟨ho, by omega, by omega, by omega⟩, br_if (fun h => trivial) (fun h => br_dec (by omega) ⟨⟨Nat.le_refl _, isB_mk [] 0 rfl, isB_mk _ _ hP.symm, by omega, by omega⟩, ⟨Nat.le_refl _, enG_pl _, isB_mk _ _ rfl, by omega⟩, br_intro (fun hk => ?_) (fun hk => ?_)⟩)⟩
  · have h0 : K = 0 := by simp at hk; omega
    obtain ⟨f1, f2⟩ := hR0 h0
    rw [f1, f2]
    have c3 : (gC enG [⟨0, 0, 1, List.replicate (16384 + K) 0⟩])[3]? = some (.slice (some ⟨gCode (bCells (List.replicate (16384 + K) 0)), 0, some 0⟩) (16384 + K) 1) := by
      have : (gC enG [⟨0, 0, 1, List.replicate (16384 + K) 0⟩])[3]? = some (.slice (some ⟨gCode (bCells (List.replicate (16384 + K) 0)), 0, some 0⟩) (List.replicate (16384 + K) (0 : UInt8)).length 1) := rfl
      rw [this, hP]
    obtain ⟨c4, c5, c6⟩ := cZ_of c3
    rw [c4, c5, c6]
    exact br_b rfl (br_dec (by simp) ⟨c3, br_b (by rw [h0]; rfl) (br_b rfl trivial)⟩)
  · have h0 : K ≠ 0 := by intro e; rw [e] at hk; simp at hk
    obtain ⟨f1, f2, f3⟩ := hR1 h0
    rw [f1, f2, f3]
    obtain ⟨g1, g2, g3, g4, g5, g6, g7⟩ := z_feed ⟨[], 0, true⟩ 16384 l
    have q1 : fdL 16384 ⟨[], 0, true⟩ l = [] := rfl
    have q2 : fdB 16384 ⟨[], 0, true⟩ l = true := rfl
    rw [q1] at g1 g7
    rw [q2] at g5 g6
    simp only at g1 g5 g6 g7
    simp only [g1, g5, g6, g7]
    refine ⟨⟨Nat.le_refl _, enG_pl [], ⟨⟨[], 0, true⟩, l, rfl, rfl, rfl, rfl, rfl, ⟨Nat.le_refl _, fun _ => rfl⟩, rfl, rfl, by simp only [List.length_nil]; omega⟩⟩, br_b rfl (br_b rfl (br_b rfl (br_b rfl trivial)))⟩
end Go.Proofs.Ytkeiogmapogpnaa.fe
