/- FrameHigh: a stream's highest bit is left out; all else of the head is told as it stands. -/
import Derived.Test.YtkeiogmapogpnaaSz9
import Derived.Test.YtkeiogmapogpnaaRows
import Derived.Test.YtkeiogmapogpnaaLfp
set_option linter.unusedSimpArgs false
set_option linter.unusedVariables false
namespace Go.Proofs.Ytkeiogmapogpnaa.fe
open Go Go.Ev Go.Sy Go.RowKit Go.Proofs.Ytkeiogmapogpnaa.s9 Go.Proofs.Ytkeiogmapogpnaa.fd Go.Proofs.Ytkeiogmapogpnaa.gl
noncomputable def frG (t f s : Int) (p : List UInt8) : Value := .agg ⟨[.int .i64 t, .int .i64 f, .int .i64 s, .slice (some ⟨gCode (bCells p), 0, some 0⟩) p.length 1]⟩
noncomputable def tH : List EntM := [eRunF, eRig, ePut, eFeed, eSameF]
noncomputable abbrev EtH : Env := envT Try.prog tH
theorem Fh_vc (t f s : Int) (p : List UInt8) : mcall EtH noM 60 10 [frG t f s p] ⟨mkR (nums 0 []), 0⟩ (retIs 0 (.bool true) []) =
  (br (decide (Int.ofNat (List.length p) > (300 : Int))) (br (decide ((0 : Int) <= (↑0 : Int) /\ (↑0 : Int) <= (300 : Int) /\ (300 : Int) <= (↑(List.length p) : Int)))
  (((((True /\ (True /\ (True /\ (300 <= List.length (gCells (gCode (bCells p))) /\ True)))) /\ True) /\ ((True /\ True) /\ (True /\ IsB (Row.mk (List.take 300 (List.drop 0
  (gCells (gCode (bCells p))))) true (Ob.cells true)) 300)))) /\ (br (!rightB t f s 300) (((True /\ (True /\ (True /\ True)))) /\ ((true = true) /\ True)) ((((True /\ ((True
  /\ (True /\ (True /\ (300 <= List.length (gCells (gCode (bCells p))) /\ True)))) /\ True)) /\ ((True /\ (True /\ True)) /\ ((Plain (bCells (zP (Row.mk [] true (Ob.cells
  true)) (Row.mk (List.take 300 (List.drop 0 (gCells (gCode (bCells p))))) true (Ob.cells true)) t f s)) /\ True) /\ (IsB (Row.mk [] true (Ob.cells true)) 0 /\ (IsB (Row.mk
  (List.take 300 (List.drop 0 (gCells (gCode (bCells p))))) true (Ob.cells true)) 300 /\ (0 <= 2000000 /\ Int.toNat (300 : Int) - Int.toNat (↑0 : Int) <= 1000000))))))) /\
  (br (decide (Int.ofNat (zPn (Row.mk [] true (Ob.cells true)) (Row.mk (List.take 300 (List.drop 0 (gCells (gCode (bCells p))))) true (Ob.cells true)) t f s) < (9 : Int)))
  ((true = false) /\ True) (br (decide ((0 : Int) <= (5 : Int) /\ (5 : Int) < (↑(zPn (Row.mk [] true (Ob.cells true)) (Row.mk (List.take 300 (List.drop 0 (gCells (gCode
  (bCells p))))) true (Ob.cells true)) t f s) : Int))) ((Eq (α := Option Value) ((bCells (zP (Row.mk [] true (Ob.cells true)) (Row.mk (List.take 300 (List.drop 0 (gCells
  (gCode (bCells p))))) true (Ob.cells true)) t f s))[5]?) (some (Value.int IntKind.u8 (cellI (bCells (zP (Row.mk [] true (Ob.cells true)) (Row.mk (List.take 300 (List.drop
  0 (gCells (gCode (bCells p))))) true (Ob.cells true)) t f s)) 5)))) /\ (br (decide ((0 : Int) <= (5 : Int) /\ (5 : Int) < (↑(zPn (Row.mk [] true (Ob.cells true)) (Row.mk
  (List.take 300 (List.drop 0 (gCells (gCode (bCells p))))) true (Ob.cells true)) t f s) : Int))) (br (decide (6 <= List.length (bCells (zP (Row.mk [] true (Ob.cells true))
  (Row.mk (List.take 300 (List.drop 0 (gCells (gCode (bCells p))))) true (Ob.cells true)) t f s)))) ((((True /\ ((0 + zPn (Row.mk [] true (Ob.cells true)) (Row.mk (List.take
  300 (List.drop 0 (gCells (gCode (bCells p))))) true (Ob.cells true)) t f s * 1 <= List.length (ovr (bCells (zP (Row.mk [] true (Ob.cells true)) (Row.mk (List.take 300
  (List.drop 0 (gCells (gCode (bCells p))))) true (Ob.cells true)) t f s)) 5 [Value.int IntKind.u8 (ior IntKind.u8 (cellI (bCells (zP (Row.mk [] true (Ob.cells true))
  (Row.mk (List.take 300 (List.drop 0 (gCells (gCode (bCells p))))) true (Ob.cells true)) t f s)) 5) (128 : Int))]) /\ Plain (List.take (zPn (Row.mk [] true (Ob.cells true))
  (Row.mk (List.take 300 (List.drop 0 (gCells (gCode (bCells p))))) true (Ob.cells true)) t f s * 1) (List.drop 0 (ovr (bCells (zP (Row.mk [] true (Ob.cells true)) (Row.mk
  (List.take 300 (List.drop 0 (gCells (gCode (bCells p))))) true (Ob.cells true)) t f s)) 5 [Value.int IntKind.u8 (ior IntKind.u8 (cellI (bCells (zP (Row.mk [] true
  (Ob.cells true)) (Row.mk (List.take 300 (List.drop 0 (gCells (gCode (bCells p))))) true (Ob.cells true)) t f s)) 5) (128 : Int))])))) /\ True)) /\ (((True /\ (True /\
  (True /\ (True /\ (True /\ (True /\ True)))))) /\ (True /\ True)) /\ ((Plain (bCells (zX (Row.mk [] false (Ob.cells true)) 0 (16384 : Int) (0 : Int) (Row.mk (List.take
  (zPn (Row.mk [] true (Ob.cells true)) (Row.mk (List.take 300 (List.drop 0 (gCells (gCode (bCells p))))) true (Ob.cells true)) t f s * 1) (List.drop 0 (ovr (bCells (zP
  (Row.mk [] true (Ob.cells true)) (Row.mk (List.take 300 (List.drop 0 (gCells (gCode (bCells p))))) true (Ob.cells true)) t f s)) 5 [Value.int IntKind.u8 (ior IntKind.u8
  (cellI (bCells (zP (Row.mk [] true (Ob.cells true)) (Row.mk (List.take 300 (List.drop 0 (gCells (gCode (bCells p))))) true (Ob.cells true)) t f s)) 5) (128 : Int))])))
  true (Ob.cells true)))) /\ (Plain (gC enG (zL (Row.mk [] false (Ob.cells true)) 0 (16384 : Int) (0 : Int) (Row.mk (List.take (zPn (Row.mk [] true (Ob.cells true)) (Row.mk
  (List.take 300 (List.drop 0 (gCells (gCode (bCells p))))) true (Ob.cells true)) t f s * 1) (List.drop 0 (ovr (bCells (zP (Row.mk [] true (Ob.cells true)) (Row.mk
  (List.take 300 (List.drop 0 (gCells (gCode (bCells p))))) true (Ob.cells true)) t f s)) 5 [Value.int IntKind.u8 (ior IntKind.u8 (cellI (bCells (zP (Row.mk [] true
  (Ob.cells true)) (Row.mk (List.take 300 (List.drop 0 (gCells (gCode (bCells p))))) true (Ob.cells true)) t f s)) 5) (128 : Int))]))) true (Ob.cells true)))) /\ True)) /\
  (ByteArray.mk #[] = ByteArray.mk #[] /\ (IsB (Row.mk (List.take (zPn (Row.mk [] true (Ob.cells true)) (Row.mk (List.take 300 (List.drop 0 (gCells (gCode (bCells p)))))
  true (Ob.cells true)) t f s * 1) (List.drop 0 (ovr (bCells (zP (Row.mk [] true (Ob.cells true)) (Row.mk (List.take 300 (List.drop 0 (gCells (gCode (bCells p))))) true
  (Ob.cells true)) t f s)) 5 [Value.int IntKind.u8 (ior IntKind.u8 (cellI (bCells (zP (Row.mk [] true (Ob.cells true)) (Row.mk (List.take 300 (List.drop 0 (gCells (gCode
  (bCells p))))) true (Ob.cells true)) t f s)) 5) (128 : Int))]))) true (Ob.cells true)) (zPn (Row.mk [] true (Ob.cells true)) (Row.mk (List.take 300 (List.drop 0 (gCells
  (gCode (bCells p))))) true (Ob.cells true)) t f s) /\ zPn (Row.mk [] true (Ob.cells true)) (Row.mk (List.take 300 (List.drop 0 (gCells (gCode (bCells p))))) true (Ob.cells
  true)) t f s <= 16777216)))))) /\ (br (zB (Row.mk [] false (Ob.cells true)) 0 (16384 : Int) (0 : Int) (Row.mk (List.take (zPn (Row.mk [] true (Ob.cells true)) (Row.mk
  (List.take 300 (List.drop 0 (gCells (gCode (bCells p))))) true (Ob.cells true)) t f s * 1) (List.drop 0 (ovr (bCells (zP (Row.mk [] true (Ob.cells true)) (Row.mk
  (List.take 300 (List.drop 0 (gCells (gCode (bCells p))))) true (Ob.cells true)) t f s)) 5 [Value.int IntKind.u8 (ior IntKind.u8 (cellI (bCells (zP (Row.mk [] true
  (Ob.cells true)) (Row.mk (List.take 300 (List.drop 0 (gCells (gCode (bCells p))))) true (Ob.cells true)) t f s)) 5) (128 : Int))]))) true (Ob.cells true)) == (0 : Int) &&
  (zC (Row.mk [] false (Ob.cells true)) 0 (16384 : Int) (0 : Int) (Row.mk (List.take (zPn (Row.mk [] true (Ob.cells true)) (Row.mk (List.take 300 (List.drop 0 (gCells (gCode
  (bCells p))))) true (Ob.cells true)) t f s * 1) (List.drop 0 (ovr (bCells (zP (Row.mk [] true (Ob.cells true)) (Row.mk (List.take 300 (List.drop 0 (gCells (gCode (bCells
  p))))) true (Ob.cells true)) t f s)) 5 [Value.int IntKind.u8 (ior IntKind.u8 (cellI (bCells (zP (Row.mk [] true (Ob.cells true)) (Row.mk (List.take 300 (List.drop 0
  (gCells (gCode (bCells p))))) true (Ob.cells true)) t f s)) 5) (128 : Int))]))) true (Ob.cells true)) == (0 : Int) && true)) (((((0 + zM (Row.mk [] false (Ob.cells true))
  0 (16384 : Int) (0 : Int) (Row.mk (List.take (zPn (Row.mk [] true (Ob.cells true)) (Row.mk (List.take 300 (List.drop 0 (gCells (gCode (bCells p))))) true (Ob.cells true))
  t f s * 1) (List.drop 0 (ovr (bCells (zP (Row.mk [] true (Ob.cells true)) (Row.mk (List.take 300 (List.drop 0 (gCells (gCode (bCells p))))) true (Ob.cells true)) t f s)) 5
  [Value.int IntKind.u8 (ior IntKind.u8 (cellI (bCells (zP (Row.mk [] true (Ob.cells true)) (Row.mk (List.take 300 (List.drop 0 (gCells (gCode (bCells p))))) true (Ob.cells
  true)) t f s)) 5) (128 : Int))]))) true (Ob.cells true)) * 4 <= List.length (gC enG (zL (Row.mk [] false (Ob.cells true)) 0 (16384 : Int) (0 : Int) (Row.mk (List.take (zPn
  (Row.mk [] true (Ob.cells true)) (Row.mk (List.take 300 (List.drop 0 (gCells (gCode (bCells p))))) true (Ob.cells true)) t f s * 1) (List.drop 0 (ovr (bCells (zP (Row.mk
  [] true (Ob.cells true)) (Row.mk (List.take 300 (List.drop 0 (gCells (gCode (bCells p))))) true (Ob.cells true)) t f s)) 5 [Value.int IntKind.u8 (ior IntKind.u8 (cellI
  (bCells (zP (Row.mk [] true (Ob.cells true)) (Row.mk (List.take 300 (List.drop 0 (gCells (gCode (bCells p))))) true (Ob.cells true)) t f s)) 5) (128 : Int))]))) true
  (Ob.cells true)))) /\ Plain (List.take (zM (Row.mk [] false (Ob.cells true)) 0 (16384 : Int) (0 : Int) (Row.mk (List.take (zPn (Row.mk [] true (Ob.cells true)) (Row.mk
  (List.take 300 (List.drop 0 (gCells (gCode (bCells p))))) true (Ob.cells true)) t f s * 1) (List.drop 0 (ovr (bCells (zP (Row.mk [] true (Ob.cells true)) (Row.mk
  (List.take 300 (List.drop 0 (gCells (gCode (bCells p))))) true (Ob.cells true)) t f s)) 5 [Value.int IntKind.u8 (ior IntKind.u8 (cellI (bCells (zP (Row.mk [] true
  (Ob.cells true)) (Row.mk (List.take 300 (List.drop 0 (gCells (gCode (bCells p))))) true (Ob.cells true)) t f s)) 5) (128 : Int))]))) true (Ob.cells true)) * 4) (List.drop
  0 (gC enG (zL (Row.mk [] false (Ob.cells true)) 0 (16384 : Int) (0 : Int) (Row.mk (List.take (zPn (Row.mk [] true (Ob.cells true)) (Row.mk (List.take 300 (List.drop 0
  (gCells (gCode (bCells p))))) true (Ob.cells true)) t f s * 1) (List.drop 0 (ovr (bCells (zP (Row.mk [] true (Ob.cells true)) (Row.mk (List.take 300 (List.drop 0 (gCells
  (gCode (bCells p))))) true (Ob.cells true)) t f s)) 5 [Value.int IntKind.u8 (ior IntKind.u8 (cellI (bCells (zP (Row.mk [] true (Ob.cells true)) (Row.mk (List.take 300
  (List.drop 0 (gCells (gCode (bCells p))))) true (Ob.cells true)) t f s)) 5) (128 : Int))]))) true (Ob.cells true))))))) /\ ((4 <= 4 /\ Plain [Value.int IntKind.i64 t,
  Value.int IntKind.i64 f, Value.int IntKind.i64 s, Value.slice (some (Addr.mk (gCode (bCells p)) 0 (some 0))) 300 1]) /\ True)) /\ ((True /\ (True /\ True)) /\ (True /\
  (IsF (Row.mk (List.take (zM (Row.mk [] false (Ob.cells true)) 0 (16384 : Int) (0 : Int) (Row.mk (List.take (zPn (Row.mk [] true (Ob.cells true)) (Row.mk (List.take 300
  (List.drop 0 (gCells (gCode (bCells p))))) true (Ob.cells true)) t f s * 1) (List.drop 0 (ovr (bCells (zP (Row.mk [] true (Ob.cells true)) (Row.mk (List.take 300
  (List.drop 0 (gCells (gCode (bCells p))))) true (Ob.cells true)) t f s)) 5 [Value.int IntKind.u8 (ior IntKind.u8 (cellI (bCells (zP (Row.mk [] true (Ob.cells true))
  (Row.mk (List.take 300 (List.drop 0 (gCells (gCode (bCells p))))) true (Ob.cells true)) t f s)) 5) (128 : Int))]))) true (Ob.cells true)) * 4) (List.drop 0 (gC enG (zL
  (Row.mk [] false (Ob.cells true)) 0 (16384 : Int) (0 : Int) (Row.mk (List.take (zPn (Row.mk [] true (Ob.cells true)) (Row.mk (List.take 300 (List.drop 0 (gCells (gCode
  (bCells p))))) true (Ob.cells true)) t f s * 1) (List.drop 0 (ovr (bCells (zP (Row.mk [] true (Ob.cells true)) (Row.mk (List.take 300 (List.drop 0 (gCells (gCode (bCells
  p))))) true (Ob.cells true)) t f s)) 5 [Value.int IntKind.u8 (ior IntKind.u8 (cellI (bCells (zP (Row.mk [] true (Ob.cells true)) (Row.mk (List.take 300 (List.drop 0
  (gCells (gCode (bCells p))))) true (Ob.cells true)) t f s)) 5) (128 : Int))]))) true (Ob.cells true)))))) true (Ob.cells true)) (zM (Row.mk [] false (Ob.cells true)) 0
  (16384 : Int) (0 : Int) (Row.mk (List.take (zPn (Row.mk [] true (Ob.cells true)) (Row.mk (List.take 300 (List.drop 0 (gCells (gCode (bCells p))))) true (Ob.cells true)) t
  f s * 1) (List.drop 0 (ovr (bCells (zP (Row.mk [] true (Ob.cells true)) (Row.mk (List.take 300 (List.drop 0 (gCells (gCode (bCells p))))) true (Ob.cells true)) t f s)) 5
  [Value.int IntKind.u8 (ior IntKind.u8 (cellI (bCells (zP (Row.mk [] true (Ob.cells true)) (Row.mk (List.take 300 (List.drop 0 (gCells (gCode (bCells p))))) true (Ob.cells
  true)) t f s)) 5) (128 : Int))]))) true (Ob.cells true))) /\ (IsF (Row.mk [Value.int IntKind.i64 t, Value.int IntKind.i64 f, Value.int IntKind.i64 s, Value.slice (some
  (Addr.mk (gCode (bCells p)) 0 (some 0))) 300 1] true (Ob.cells true)) 1 /\ zM (Row.mk [] false (Ob.cells true)) 0 (16384 : Int) (0 : Int) (Row.mk (List.take (zPn (Row.mk
  [] true (Ob.cells true)) (Row.mk (List.take 300 (List.drop 0 (gCells (gCode (bCells p))))) true (Ob.cells true)) t f s * 1) (List.drop 0 (ovr (bCells (zP (Row.mk [] true
  (Ob.cells true)) (Row.mk (List.take 300 (List.drop 0 (gCells (gCode (bCells p))))) true (Ob.cells true)) t f s)) 5 [Value.int IntKind.u8 (ior IntKind.u8 (cellI (bCells (zP
  (Row.mk [] true (Ob.cells true)) (Row.mk (List.take 300 (List.drop 0 (gCells (gCode (bCells p))))) true (Ob.cells true)) t f s)) 5) (128 : Int))]))) true (Ob.cells true))
  <= 9223372036854775807)))))) /\ (br (zF (Row.mk (List.take (zM (Row.mk [] false (Ob.cells true)) 0 (16384 : Int) (0 : Int) (Row.mk (List.take (zPn (Row.mk [] true
  (Ob.cells true)) (Row.mk (List.take 300 (List.drop 0 (gCells (gCode (bCells p))))) true (Ob.cells true)) t f s * 1) (List.drop 0 (ovr (bCells (zP (Row.mk [] true (Ob.cells
  true)) (Row.mk (List.take 300 (List.drop 0 (gCells (gCode (bCells p))))) true (Ob.cells true)) t f s)) 5 [Value.int IntKind.u8 (ior IntKind.u8 (cellI (bCells (zP (Row.mk
  [] true (Ob.cells true)) (Row.mk (List.take 300 (List.drop 0 (gCells (gCode (bCells p))))) true (Ob.cells true)) t f s)) 5) (128 : Int))]))) true (Ob.cells true)) * 4)
  (List.drop 0 (gC enG (zL (Row.mk [] false (Ob.cells true)) 0 (16384 : Int) (0 : Int) (Row.mk (List.take (zPn (Row.mk [] true (Ob.cells true)) (Row.mk (List.take 300
  (List.drop 0 (gCells (gCode (bCells p))))) true (Ob.cells true)) t f s * 1) (List.drop 0 (ovr (bCells (zP (Row.mk [] true (Ob.cells true)) (Row.mk (List.take 300
  (List.drop 0 (gCells (gCode (bCells p))))) true (Ob.cells true)) t f s)) 5 [Value.int IntKind.u8 (ior IntKind.u8 (cellI (bCells (zP (Row.mk [] true (Ob.cells true))
  (Row.mk (List.take 300 (List.drop 0 (gCells (gCode (bCells p))))) true (Ob.cells true)) t f s)) 5) (128 : Int))]))) true (Ob.cells true)))))) true (Ob.cells true)) (Row.mk
  [Value.int IntKind.i64 t, Value.int IntKind.i64 f, Value.int IntKind.i64 s, Value.slice (some (Addr.mk (gCode (bCells p)) 0 (some 0))) 300 1] true (Ob.cells true)))
  (((True /\ (True /\ (True /\ True)))) /\ ((true = true) /\ True)) ((true = false) /\ True))) ((true = false) /\ True))) False) False)) False))))) False) (((((True /\ (True
  /\ (True /\ (0 + List.length p * 1 <= List.length (gCells (gCode (bCells p))) /\ True)))) /\ True) /\ ((True /\ True) /\ (True /\ IsB (Row.mk (List.take (List.length p *
  1) (List.drop 0 (gCells (gCode (bCells p))))) true (Ob.cells true)) (List.length p))))) /\ (br (!rightB t f s (List.length p)) (((True /\ (True /\ (True /\ True)))) /\
  ((true = true) /\ True)) ((((True /\ ((True /\ (True /\ (True /\ (0 + List.length p * 1 <= List.length (gCells (gCode (bCells p))) /\ True)))) /\ True)) /\ ((True /\ (True
  /\ True)) /\ ((Plain (bCells (zP (Row.mk [] true (Ob.cells true)) (Row.mk (List.take (List.length p * 1) (List.drop 0 (gCells (gCode (bCells p))))) true (Ob.cells true)) t
  f s)) /\ True) /\ (IsB (Row.mk [] true (Ob.cells true)) 0 /\ (IsB (Row.mk (List.take (List.length p * 1) (List.drop 0 (gCells (gCode (bCells p))))) true (Ob.cells true))
  (List.length p) /\ (0 <= 2000000 /\ List.length p <= 1000000))))))) /\ (br (decide (Int.ofNat (zPn (Row.mk [] true (Ob.cells true)) (Row.mk (List.take (List.length p * 1)
  (List.drop 0 (gCells (gCode (bCells p))))) true (Ob.cells true)) t f s) < (9 : Int))) ((true = false) /\ True) (br (decide ((0 : Int) <= (5 : Int) /\ (5 : Int) < (↑(zPn
  (Row.mk [] true (Ob.cells true)) (Row.mk (List.take (List.length p * 1) (List.drop 0 (gCells (gCode (bCells p))))) true (Ob.cells true)) t f s) : Int))) ((Eq (α := Option
  Value) ((bCells (zP (Row.mk [] true (Ob.cells true)) (Row.mk (List.take (List.length p * 1) (List.drop 0 (gCells (gCode (bCells p))))) true (Ob.cells true)) t f s))[5]?)
  (some (Value.int IntKind.u8 (cellI (bCells (zP (Row.mk [] true (Ob.cells true)) (Row.mk (List.take (List.length p * 1) (List.drop 0 (gCells (gCode (bCells p))))) true
  (Ob.cells true)) t f s)) 5)))) /\ (br (decide ((0 : Int) <= (5 : Int) /\ (5 : Int) < (↑(zPn (Row.mk [] true (Ob.cells true)) (Row.mk (List.take (List.length p * 1)
  (List.drop 0 (gCells (gCode (bCells p))))) true (Ob.cells true)) t f s) : Int))) (br (decide (6 <= List.length (bCells (zP (Row.mk [] true (Ob.cells true)) (Row.mk
  (List.take (List.length p * 1) (List.drop 0 (gCells (gCode (bCells p))))) true (Ob.cells true)) t f s)))) ((((True /\ ((0 + zPn (Row.mk [] true (Ob.cells true)) (Row.mk
  (List.take (List.length p * 1) (List.drop 0 (gCells (gCode (bCells p))))) true (Ob.cells true)) t f s * 1 <= List.length (ovr (bCells (zP (Row.mk [] true (Ob.cells true))
  (Row.mk (List.take (List.length p * 1) (List.drop 0 (gCells (gCode (bCells p))))) true (Ob.cells true)) t f s)) 5 [Value.int IntKind.u8 (ior IntKind.u8 (cellI (bCells (zP
  (Row.mk [] true (Ob.cells true)) (Row.mk (List.take (List.length p * 1) (List.drop 0 (gCells (gCode (bCells p))))) true (Ob.cells true)) t f s)) 5) (128 : Int))]) /\ Plain
  (List.take (zPn (Row.mk [] true (Ob.cells true)) (Row.mk (List.take (List.length p * 1) (List.drop 0 (gCells (gCode (bCells p))))) true (Ob.cells true)) t f s * 1)
  (List.drop 0 (ovr (bCells (zP (Row.mk [] true (Ob.cells true)) (Row.mk (List.take (List.length p * 1) (List.drop 0 (gCells (gCode (bCells p))))) true (Ob.cells true)) t f
  s)) 5 [Value.int IntKind.u8 (ior IntKind.u8 (cellI (bCells (zP (Row.mk [] true (Ob.cells true)) (Row.mk (List.take (List.length p * 1) (List.drop 0 (gCells (gCode (bCells
  p))))) true (Ob.cells true)) t f s)) 5) (128 : Int))])))) /\ True)) /\ (((True /\ (True /\ (True /\ (True /\ (True /\ (True /\ True)))))) /\ (True /\ True)) /\ ((Plain
  (bCells (zX (Row.mk [] false (Ob.cells true)) 0 (16384 : Int) (0 : Int) (Row.mk (List.take (zPn (Row.mk [] true (Ob.cells true)) (Row.mk (List.take (List.length p * 1)
  (List.drop 0 (gCells (gCode (bCells p))))) true (Ob.cells true)) t f s * 1) (List.drop 0 (ovr (bCells (zP (Row.mk [] true (Ob.cells true)) (Row.mk (List.take (List.length
  p * 1) (List.drop 0 (gCells (gCode (bCells p))))) true (Ob.cells true)) t f s)) 5 [Value.int IntKind.u8 (ior IntKind.u8 (cellI (bCells (zP (Row.mk [] true (Ob.cells true))
  (Row.mk (List.take (List.length p * 1) (List.drop 0 (gCells (gCode (bCells p))))) true (Ob.cells true)) t f s)) 5) (128 : Int))]))) true (Ob.cells true)))) /\ (Plain (gC
  enG (zL (Row.mk [] false (Ob.cells true)) 0 (16384 : Int) (0 : Int) (Row.mk (List.take (zPn (Row.mk [] true (Ob.cells true)) (Row.mk (List.take (List.length p * 1)
  (List.drop 0 (gCells (gCode (bCells p))))) true (Ob.cells true)) t f s * 1) (List.drop 0 (ovr (bCells (zP (Row.mk [] true (Ob.cells true)) (Row.mk (List.take (List.length
  p * 1) (List.drop 0 (gCells (gCode (bCells p))))) true (Ob.cells true)) t f s)) 5 [Value.int IntKind.u8 (ior IntKind.u8 (cellI (bCells (zP (Row.mk [] true (Ob.cells true))
  (Row.mk (List.take (List.length p * 1) (List.drop 0 (gCells (gCode (bCells p))))) true (Ob.cells true)) t f s)) 5) (128 : Int))]))) true (Ob.cells true)))) /\ True)) /\
  (ByteArray.mk #[] = ByteArray.mk #[] /\ (IsB (Row.mk (List.take (zPn (Row.mk [] true (Ob.cells true)) (Row.mk (List.take (List.length p * 1) (List.drop 0 (gCells (gCode
  (bCells p))))) true (Ob.cells true)) t f s * 1) (List.drop 0 (ovr (bCells (zP (Row.mk [] true (Ob.cells true)) (Row.mk (List.take (List.length p * 1) (List.drop 0 (gCells
  (gCode (bCells p))))) true (Ob.cells true)) t f s)) 5 [Value.int IntKind.u8 (ior IntKind.u8 (cellI (bCells (zP (Row.mk [] true (Ob.cells true)) (Row.mk (List.take
  (List.length p * 1) (List.drop 0 (gCells (gCode (bCells p))))) true (Ob.cells true)) t f s)) 5) (128 : Int))]))) true (Ob.cells true)) (zPn (Row.mk [] true (Ob.cells
  true)) (Row.mk (List.take (List.length p * 1) (List.drop 0 (gCells (gCode (bCells p))))) true (Ob.cells true)) t f s) /\ zPn (Row.mk [] true (Ob.cells true)) (Row.mk
  (List.take (List.length p * 1) (List.drop 0 (gCells (gCode (bCells p))))) true (Ob.cells true)) t f s <= 16777216)))))) /\ (br (zB (Row.mk [] false (Ob.cells true)) 0
  (16384 : Int) (0 : Int) (Row.mk (List.take (zPn (Row.mk [] true (Ob.cells true)) (Row.mk (List.take (List.length p * 1) (List.drop 0 (gCells (gCode (bCells p))))) true
  (Ob.cells true)) t f s * 1) (List.drop 0 (ovr (bCells (zP (Row.mk [] true (Ob.cells true)) (Row.mk (List.take (List.length p * 1) (List.drop 0 (gCells (gCode (bCells
  p))))) true (Ob.cells true)) t f s)) 5 [Value.int IntKind.u8 (ior IntKind.u8 (cellI (bCells (zP (Row.mk [] true (Ob.cells true)) (Row.mk (List.take (List.length p * 1)
  (List.drop 0 (gCells (gCode (bCells p))))) true (Ob.cells true)) t f s)) 5) (128 : Int))]))) true (Ob.cells true)) == (0 : Int) && (zC (Row.mk [] false (Ob.cells true)) 0
  (16384 : Int) (0 : Int) (Row.mk (List.take (zPn (Row.mk [] true (Ob.cells true)) (Row.mk (List.take (List.length p * 1) (List.drop 0 (gCells (gCode (bCells p))))) true
  (Ob.cells true)) t f s * 1) (List.drop 0 (ovr (bCells (zP (Row.mk [] true (Ob.cells true)) (Row.mk (List.take (List.length p * 1) (List.drop 0 (gCells (gCode (bCells
  p))))) true (Ob.cells true)) t f s)) 5 [Value.int IntKind.u8 (ior IntKind.u8 (cellI (bCells (zP (Row.mk [] true (Ob.cells true)) (Row.mk (List.take (List.length p * 1)
  (List.drop 0 (gCells (gCode (bCells p))))) true (Ob.cells true)) t f s)) 5) (128 : Int))]))) true (Ob.cells true)) == (0 : Int) && true)) (((((0 + zM (Row.mk [] false
  (Ob.cells true)) 0 (16384 : Int) (0 : Int) (Row.mk (List.take (zPn (Row.mk [] true (Ob.cells true)) (Row.mk (List.take (List.length p * 1) (List.drop 0 (gCells (gCode
  (bCells p))))) true (Ob.cells true)) t f s * 1) (List.drop 0 (ovr (bCells (zP (Row.mk [] true (Ob.cells true)) (Row.mk (List.take (List.length p * 1) (List.drop 0 (gCells
  (gCode (bCells p))))) true (Ob.cells true)) t f s)) 5 [Value.int IntKind.u8 (ior IntKind.u8 (cellI (bCells (zP (Row.mk [] true (Ob.cells true)) (Row.mk (List.take
  (List.length p * 1) (List.drop 0 (gCells (gCode (bCells p))))) true (Ob.cells true)) t f s)) 5) (128 : Int))]))) true (Ob.cells true)) * 4 <= List.length (gC enG (zL
  (Row.mk [] false (Ob.cells true)) 0 (16384 : Int) (0 : Int) (Row.mk (List.take (zPn (Row.mk [] true (Ob.cells true)) (Row.mk (List.take (List.length p * 1) (List.drop 0
  (gCells (gCode (bCells p))))) true (Ob.cells true)) t f s * 1) (List.drop 0 (ovr (bCells (zP (Row.mk [] true (Ob.cells true)) (Row.mk (List.take (List.length p * 1)
  (List.drop 0 (gCells (gCode (bCells p))))) true (Ob.cells true)) t f s)) 5 [Value.int IntKind.u8 (ior IntKind.u8 (cellI (bCells (zP (Row.mk [] true (Ob.cells true))
  (Row.mk (List.take (List.length p * 1) (List.drop 0 (gCells (gCode (bCells p))))) true (Ob.cells true)) t f s)) 5) (128 : Int))]))) true (Ob.cells true)))) /\ Plain
  (List.take (zM (Row.mk [] false (Ob.cells true)) 0 (16384 : Int) (0 : Int) (Row.mk (List.take (zPn (Row.mk [] true (Ob.cells true)) (Row.mk (List.take (List.length p * 1)
  (List.drop 0 (gCells (gCode (bCells p))))) true (Ob.cells true)) t f s * 1) (List.drop 0 (ovr (bCells (zP (Row.mk [] true (Ob.cells true)) (Row.mk (List.take (List.length
  p * 1) (List.drop 0 (gCells (gCode (bCells p))))) true (Ob.cells true)) t f s)) 5 [Value.int IntKind.u8 (ior IntKind.u8 (cellI (bCells (zP (Row.mk [] true (Ob.cells true))
  (Row.mk (List.take (List.length p * 1) (List.drop 0 (gCells (gCode (bCells p))))) true (Ob.cells true)) t f s)) 5) (128 : Int))]))) true (Ob.cells true)) * 4) (List.drop 0
  (gC enG (zL (Row.mk [] false (Ob.cells true)) 0 (16384 : Int) (0 : Int) (Row.mk (List.take (zPn (Row.mk [] true (Ob.cells true)) (Row.mk (List.take (List.length p * 1)
  (List.drop 0 (gCells (gCode (bCells p))))) true (Ob.cells true)) t f s * 1) (List.drop 0 (ovr (bCells (zP (Row.mk [] true (Ob.cells true)) (Row.mk (List.take (List.length
  p * 1) (List.drop 0 (gCells (gCode (bCells p))))) true (Ob.cells true)) t f s)) 5 [Value.int IntKind.u8 (ior IntKind.u8 (cellI (bCells (zP (Row.mk [] true (Ob.cells true))
  (Row.mk (List.take (List.length p * 1) (List.drop 0 (gCells (gCode (bCells p))))) true (Ob.cells true)) t f s)) 5) (128 : Int))]))) true (Ob.cells true))))))) /\ ((4 <= 4
  /\ Plain [Value.int IntKind.i64 t, Value.int IntKind.i64 f, Value.int IntKind.i64 s, Value.slice (some (Addr.mk (gCode (bCells p)) 0 (some 0))) (List.length p) 1]) /\
  True)) /\ ((True /\ (True /\ True)) /\ (True /\ (IsF (Row.mk (List.take (zM (Row.mk [] false (Ob.cells true)) 0 (16384 : Int) (0 : Int) (Row.mk (List.take (zPn (Row.mk []
  true (Ob.cells true)) (Row.mk (List.take (List.length p * 1) (List.drop 0 (gCells (gCode (bCells p))))) true (Ob.cells true)) t f s * 1) (List.drop 0 (ovr (bCells (zP
  (Row.mk [] true (Ob.cells true)) (Row.mk (List.take (List.length p * 1) (List.drop 0 (gCells (gCode (bCells p))))) true (Ob.cells true)) t f s)) 5 [Value.int IntKind.u8
  (ior IntKind.u8 (cellI (bCells (zP (Row.mk [] true (Ob.cells true)) (Row.mk (List.take (List.length p * 1) (List.drop 0 (gCells (gCode (bCells p))))) true (Ob.cells true))
  t f s)) 5) (128 : Int))]))) true (Ob.cells true)) * 4) (List.drop 0 (gC enG (zL (Row.mk [] false (Ob.cells true)) 0 (16384 : Int) (0 : Int) (Row.mk (List.take (zPn (Row.mk
  [] true (Ob.cells true)) (Row.mk (List.take (List.length p * 1) (List.drop 0 (gCells (gCode (bCells p))))) true (Ob.cells true)) t f s * 1) (List.drop 0 (ovr (bCells (zP
  (Row.mk [] true (Ob.cells true)) (Row.mk (List.take (List.length p * 1) (List.drop 0 (gCells (gCode (bCells p))))) true (Ob.cells true)) t f s)) 5 [Value.int IntKind.u8
  (ior IntKind.u8 (cellI (bCells (zP (Row.mk [] true (Ob.cells true)) (Row.mk (List.take (List.length p * 1) (List.drop 0 (gCells (gCode (bCells p))))) true (Ob.cells true))
  t f s)) 5) (128 : Int))]))) true (Ob.cells true)))))) true (Ob.cells true)) (zM (Row.mk [] false (Ob.cells true)) 0 (16384 : Int) (0 : Int) (Row.mk (List.take (zPn (Row.mk
  [] true (Ob.cells true)) (Row.mk (List.take (List.length p * 1) (List.drop 0 (gCells (gCode (bCells p))))) true (Ob.cells true)) t f s * 1) (List.drop 0 (ovr (bCells (zP
  (Row.mk [] true (Ob.cells true)) (Row.mk (List.take (List.length p * 1) (List.drop 0 (gCells (gCode (bCells p))))) true (Ob.cells true)) t f s)) 5 [Value.int IntKind.u8
  (ior IntKind.u8 (cellI (bCells (zP (Row.mk [] true (Ob.cells true)) (Row.mk (List.take (List.length p * 1) (List.drop 0 (gCells (gCode (bCells p))))) true (Ob.cells true))
  t f s)) 5) (128 : Int))]))) true (Ob.cells true))) /\ (IsF (Row.mk [Value.int IntKind.i64 t, Value.int IntKind.i64 f, Value.int IntKind.i64 s, Value.slice (some (Addr.mk
  (gCode (bCells p)) 0 (some 0))) (List.length p) 1] true (Ob.cells true)) 1 /\ zM (Row.mk [] false (Ob.cells true)) 0 (16384 : Int) (0 : Int) (Row.mk (List.take (zPn
  (Row.mk [] true (Ob.cells true)) (Row.mk (List.take (List.length p * 1) (List.drop 0 (gCells (gCode (bCells p))))) true (Ob.cells true)) t f s * 1) (List.drop 0 (ovr
  (bCells (zP (Row.mk [] true (Ob.cells true)) (Row.mk (List.take (List.length p * 1) (List.drop 0 (gCells (gCode (bCells p))))) true (Ob.cells true)) t f s)) 5 [Value.int
  IntKind.u8 (ior IntKind.u8 (cellI (bCells (zP (Row.mk [] true (Ob.cells true)) (Row.mk (List.take (List.length p * 1) (List.drop 0 (gCells (gCode (bCells p))))) true
  (Ob.cells true)) t f s)) 5) (128 : Int))]))) true (Ob.cells true)) <= 9223372036854775807)))))) /\ (br (zF (Row.mk (List.take (zM (Row.mk [] false (Ob.cells true)) 0
  (16384 : Int) (0 : Int) (Row.mk (List.take (zPn (Row.mk [] true (Ob.cells true)) (Row.mk (List.take (List.length p * 1) (List.drop 0 (gCells (gCode (bCells p))))) true
  (Ob.cells true)) t f s * 1) (List.drop 0 (ovr (bCells (zP (Row.mk [] true (Ob.cells true)) (Row.mk (List.take (List.length p * 1) (List.drop 0 (gCells (gCode (bCells
  p))))) true (Ob.cells true)) t f s)) 5 [Value.int IntKind.u8 (ior IntKind.u8 (cellI (bCells (zP (Row.mk [] true (Ob.cells true)) (Row.mk (List.take (List.length p * 1)
  (List.drop 0 (gCells (gCode (bCells p))))) true (Ob.cells true)) t f s)) 5) (128 : Int))]))) true (Ob.cells true)) * 4) (List.drop 0 (gC enG (zL (Row.mk [] false (Ob.cells
  true)) 0 (16384 : Int) (0 : Int) (Row.mk (List.take (zPn (Row.mk [] true (Ob.cells true)) (Row.mk (List.take (List.length p * 1) (List.drop 0 (gCells (gCode (bCells p)))))
  true (Ob.cells true)) t f s * 1) (List.drop 0 (ovr (bCells (zP (Row.mk [] true (Ob.cells true)) (Row.mk (List.take (List.length p * 1) (List.drop 0 (gCells (gCode (bCells
  p))))) true (Ob.cells true)) t f s)) 5 [Value.int IntKind.u8 (ior IntKind.u8 (cellI (bCells (zP (Row.mk [] true (Ob.cells true)) (Row.mk (List.take (List.length p * 1)
  (List.drop 0 (gCells (gCode (bCells p))))) true (Ob.cells true)) t f s)) 5) (128 : Int))]))) true (Ob.cells true)))))) true (Ob.cells true)) (Row.mk [Value.int IntKind.i64
  t, Value.int IntKind.i64 f, Value.int IntKind.i64 s, Value.slice (some (Addr.mk (gCode (bCells p)) 0 (some 0))) (List.length p) 1] true (Ob.cells true))) (((True /\ (True
  /\ (True /\ True)))) /\ ((true = true) /\ True)) ((true = false) /\ True))) ((true = false) /\ True))) False) False)) False)))))) := by kernel_rfl
theorem tH_ok : ∀ x ∈ tH, EntOk Try.prog x := all_cons eRunF_ok (all_cons eRig_ok (all_cons ePut_ok (all_cons eFeed_ok (all_cons eSameF_ok (all_nil)))))
theorem Fh_law (t f s : Int) (p : List UInt8) (h1 : I64 t) (h2 : I64 f) (h3 : I64 s) (_ : p.length ≤ maxLen) : Con Try.prog 10 [frG t f s p] [] (.bool true) [] := by
  refine con_vc (E := EtH) mixed (calls_envT tH_ok) (lok_envT _ _) (M := noM) lm_none (Fh_vc t f s p) ?_
  have hz : gCells (gCode (bCells p)) = bCells p := gCells_code (bCells_g p)
  simp only [ofNat_eq, toNat_cast, Nat.zero_add, Nat.add_zero, Nat.mul_one, List.drop_zero, bCells_len, bCells_drop, bCells_take, bCells_app, bCells_one, bCells_plain, List.length_replicate, List.length_append, List.length_take, List.length_drop, List.take_length, and_true, true_and, and_self, decide_true, List.length_nil, List.length_cons, Nat.sub_zero, dB_mk, dB_ro, List.take_zero, hz, List.take_length]
  refine br_if (fun hp => ?_) (fun hp => ?_)
  · have hq : (p.take 300).length = 300 := by rw [List.length_take]; omega
    refine br_dec (by omega) ⟨⟨by omega, isB_mk _ _ hq.symm⟩, br_intro (fun hr => trivial) (fun hr => ?_)⟩
    have hr : rightB t f s 300 = true := by simpa using hr
    have hr2 := hr
    unfold rightB at hr2
    obtain ⟨r1, r2, r3, r4, r5, r6, r7⟩ := of_decide_eq_true hr2
    obtain ⟨T, rfl⟩ := Int.eq_ofNat_of_zero_le r1
    obtain ⟨F, rfl⟩ := Int.eq_ofNat_of_zero_le r3
    obtain ⟨S, rfl⟩ := Int.eq_ofNat_of_zero_le r5
    obtain ⟨B, hB⟩ : ∃ B, B = headB 300 T F S ++ (p.take 300) := ⟨_, rfl⟩
    have hBl : B.length = 9 + 300 := by rw [hB, List.length_append, hq]; rfl
    have hzP : zP ⟨[], true, .cells true⟩ ⟨bCells (p.take 300), true, .cells true⟩ T F S = B := by
      rw [zP_nil]; unfold frO; rw [hq, if_pos hr, hB]; rfl
    have hzn : zPn ⟨[], true, .cells true⟩ ⟨bCells (p.take 300), true, .cells true⟩ T F S = B.length := by unfold zPn; rw [hzP]
    have h5b := (head_bt 300 T F S).2.2.2.2.2.1
    have hb5 : bt B 5 = bt (headB 300 T F S) 5 := by rw [hB]; exact bt_app (by show 5 < 9; omega)
    have hlt5 : bt B 5 < 128 := by rw [hb5, h5b]; omega
    have c5 : cellI (bCells B) 5 = (bt B 5 : Nat) := bt_c (by omega)
    have a5 : (bCells B)[5]? = some (Value.int IntKind.u8 (cellI (bCells B) 5)) := bCells_at (by omega)
    have hor : ior .u8 ((bt B 5 : Nat) : Int) 128 = ((bt B 5 + 128 : Nat) : Int) := by
      have := ior8_nat (a := bt B 5) (b := 128) (by omega) (by omega)
      rw [show ((128 : Nat) : Int) = 128 from rfl] at this
      rw [this, Nat.or_comm, show (128 : Nat) = 2 ^ 7 * 1 from rfl, or_add (k := 7) (by omega), Nat.add_comm]
    have hov : ovr (bCells B) 5 [Value.int .u8 ((bt B 5 + 128 : Nat) : Int)] = bCells (B.set 5 (UInt8.ofNat (bt B 5 + 128))) := by
      rw [bVal_nat (by omega), bCells_sing, bCells_ovr]
      have := ovr_set (l := B) (i := 5) (by omega) (UInt8.ofNat (bt B 5 + 128))
      rw [← this]; rfl
    have hset : B.set 5 (UInt8.ofNat (bt B 5 + 128)) = (headB 300 T F S).set 5 (UInt8.ofNat (bt B 5 + 128)) ++ ((p.take 300) ++ []) := by
      rw [hB, List.append_nil]
      exact List.set_append_left 5 _ (by show 5 < 9; omega)
    have hsl : (B.set 5 (UInt8.ofNat (bt B 5 + 128))).length = B.length := List.length_set
    obtain ⟨k1, k2, k3, k4⟩ := high_bt 300 T F S (by omega) (UInt8.ofNat (bt B 5 + 128)) (by rw [u8_toNat_ofNat (by omega), hb5])
    have hfp := fr_put (p.take 300) [] T F S (by omega) (by omega) (by omega) (by rw [hq]; omega)
    have hlen0 : lenF (headB 300 T F S) = 300 := by
      obtain ⟨q0, q1, q2, _⟩ := head_bt 300 T F S
      unfold lenF; rw [q0, q1, q2]; try omega
    have hstr : strF (headB 300 T F S) = S := by
      obtain ⟨_, _, _, _, _, q5, q6, q7, q8⟩ := head_bt 300 T F S
      unfold strF; rw [q5, q6, q7, q8]; omega
    have h3' : bt (headB 300 T F S) 3 = T := by rw [(head_bt 300 T F S).2.2.2.1]; omega
    have h4' : bt (headB 300 T F S) 4 = F := by rw [(head_bt 300 T F S).2.2.2.2.1]; omega
    obtain ⟨C, hC⟩ : ∃ C, C = B.set 5 (UInt8.ofNat (bt B 5 + 128)) := ⟨_, rfl⟩
    have hR : fdR 16384 ⟨[], 0, false⟩ C = ([⟨T, F, S, (p.take 300)⟩], 9 + (p.take 300).length + 0, false) := by
      have hr := run_head 16384 C.length ((headB 300 T F S).set 5 (UInt8.ofNat (bt B 5 + 128))) (p.take 300) [] (by rw [List.length_set]; rfl) (by rw [k1, hlen0, hq]) (by rw [hq]; omega) (by rw [← hset, ← hC]; exact Nat.le_refl _)
      rw [run_nil, k2, k3, k4, hstr, h3', h4'] at hr
      rw [fdR_new]; conv => lhs; arg 3; rw [hC, hset]
      exact hr
    have f1 : fdL 16384 ⟨[], 0, false⟩ C = [⟨T, F, S, (p.take 300)⟩] := by unfold fdL; rw [hR]; rfl
    have f2 : fdB 16384 ⟨[], 0, false⟩ C = false := by unfold fdB; rw [hR]; rfl
    obtain ⟨e1, e2, e3, e4, e5, e6, e7⟩ := z_new 16384 C
    rw [f1] at e1 e7
    rw [f2] at e5 e6
    simp only [hzP, hzn, c5, hor, hov, ← hC]
    have htC : List.take B.length (bCells C) = bCells C := List.take_of_length_le (by rw [bCells_len, hC, hsl]; exact Nat.le_refl _)
    have hCl : C.length = B.length := by rw [hC, hsl]
    simp only [htC, e1, e5, e6, e7, bCells_len, hCl]
    have hE : gC enG [⟨T, F, S, (p.take 300)⟩] = gC enH [⟨T, F, S, gCode (bCells (p.take 300)), 0, 300⟩] := by
      have : gC enG [⟨T, F, S, (p.take 300)⟩] = gC enH [⟨T, F, S, gCode (bCells (p.take 300)), 0, (p.take 300).length⟩] := rfl
      first | exact this | rw [this, hq]
    have hT4 : List.take ([(⟨T, F, S, (p.take 300)⟩ : Bf)].length * 4) (gC enG [⟨T, F, S, (p.take 300)⟩]) = gC enH [⟨T, F, S, gCode (bCells (p.take 300)), 0, 300⟩] := by
      rw [hE]; rfl
    have hzq : gCells (gCode (bCells (p.take 300))) = bCells (p.take 300) := gCells_code (bCells_g _)
    have o1 : FOk ⟨T, F, S, gCode (bCells (p.take 300)), 0, 300⟩ := ⟨(p.take 300), by simp only; rw [hzq, List.drop_zero, List.take_of_length_le (by rw [bCells_len, hq]; exact Nat.le_refl _)], hq, by simp only; omega, by simp only; rw [hzq, bCells_len, hq]; omega⟩
    have hsh : List.take 300 (bCells p) = bCells (p.take 300) := by rw [bCells_take]
    have o2 : FOk ⟨T, F, S, gCode (bCells p), 0, 300⟩ := ⟨(p.take 300), by simp only; rw [hz, List.drop_zero, hsh], hq, by simp only; omega, by simp only; rw [hz, bCells_len]; omega⟩
    have hv : [(⟨T, F, S, gCode (bCells (p.take 300)), 0, 300⟩ : Gf)].map vw = [(⟨T, F, S, gCode (bCells p), 0, 300⟩ : Gf)].map vw := by
      first | rfl | (simp only [List.map_cons, List.map_nil, vw, gB]; rw [hzq, hz, List.drop_zero, List.drop_zero, hsh, List.take_of_length_le (by rw [bCells_len, hq]; exact Nat.le_refl _)])
    have hzF : zF ⟨gC enH [⟨T, F, S, gCode (bCells (p.take 300)), 0, 300⟩], true, .cells true⟩ ⟨[Value.int IntKind.i64 T, Value.int IntKind.i64 F, Value.int IntKind.i64 S, Value.slice (some { block := gCode (bCells p), off := 0, spot := some 0 }) 300 1], true, .cells true⟩ = true :=
      (zF_mk [⟨T, F, S, gCode (bCells (p.take 300)), 0, 300⟩] [⟨T, F, S, gCode (bCells p), 0, 300⟩] true true).trans (decide_eq_true hv)
    have sing1 : ∀ x : Gf, FOk x → ∀ y ∈ [x], FOk y := fun x hx y hy => by rw [List.mem_singleton] at hy; rw [hy]; exact hx
    have pl2 : Plain [Value.int IntKind.i64 T, Value.int IntKind.i64 F, Value.int IntKind.i64 S, Value.slice (some { block := gCode (bCells p), off := 0, spot := some 0 }) 300 1] := enH_pl [⟨T, F, S, gCode (bCells p), 0, 300⟩]
    rw [hT4, hzF]
    exact ⟨⟨by omega, isB_mk [] 0 rfl, isB_mk _ _ hq.symm, by omega, by omega⟩, br_nd (by omega) (br_dec (by omega) ⟨by rw [a5, c5], br_dec (by omega) (br_dec (by omega) ⟨⟨⟨Nat.le_refl _, bCells_plain _⟩, enG_pl _, isB_mk _ _ hCl.symm, by omega⟩, br_b rfl ⟨⟨⟨⟨by rw [gC_len enG_k]; exact Nat.le_refl _, enH_pl _⟩, by omega, pl2⟩, ⟨_, rfl, rfl, sing1 _ o1⟩, ⟨[⟨T, F, S, gCode (bCells p), 0, 300⟩], rfl, rfl, sing1 _ o2⟩, by simp⟩, br_b rfl trivial⟩⟩)⟩)⟩
  · have hq : p.length = p.length := rfl
    refine ⟨⟨by omega, isB_mk _ _ rfl⟩, br_intro (fun hr => trivial) (fun hr => ?_)⟩
    have hr : rightB t f s p.length = true := by simpa using hr
    have hr2 := hr
    unfold rightB at hr2
    obtain ⟨r1, r2, r3, r4, r5, r6, r7⟩ := of_decide_eq_true hr2
    obtain ⟨T, rfl⟩ := Int.eq_ofNat_of_zero_le r1
    obtain ⟨F, rfl⟩ := Int.eq_ofNat_of_zero_le r3
    obtain ⟨S, rfl⟩ := Int.eq_ofNat_of_zero_le r5
    obtain ⟨B, hB⟩ : ∃ B, B = headB p.length T F S ++ p := ⟨_, rfl⟩
    have hBl : B.length = 9 + p.length := by rw [hB, List.length_append, hq]; rfl
    have hzP : zP ⟨[], true, .cells true⟩ ⟨bCells p, true, .cells true⟩ T F S = B := by
      rw [zP_nil]; unfold frO; rw [hq, if_pos hr, hB]; rfl
    have hzn : zPn ⟨[], true, .cells true⟩ ⟨bCells p, true, .cells true⟩ T F S = B.length := by unfold zPn; rw [hzP]
    have h5b := (head_bt p.length T F S).2.2.2.2.2.1
    have hb5 : bt B 5 = bt (headB p.length T F S) 5 := by rw [hB]; exact bt_app (by show 5 < 9; omega)
    have hlt5 : bt B 5 < 128 := by rw [hb5, h5b]; omega
    have c5 : cellI (bCells B) 5 = (bt B 5 : Nat) := bt_c (by omega)
    have a5 : (bCells B)[5]? = some (Value.int IntKind.u8 (cellI (bCells B) 5)) := bCells_at (by omega)
    have hor : ior .u8 ((bt B 5 : Nat) : Int) 128 = ((bt B 5 + 128 : Nat) : Int) := by
      have := ior8_nat (a := bt B 5) (b := 128) (by omega) (by omega)
      rw [show ((128 : Nat) : Int) = 128 from rfl] at this
      rw [this, Nat.or_comm, show (128 : Nat) = 2 ^ 7 * 1 from rfl, or_add (k := 7) (by omega), Nat.add_comm]
    have hov : ovr (bCells B) 5 [Value.int .u8 ((bt B 5 + 128 : Nat) : Int)] = bCells (B.set 5 (UInt8.ofNat (bt B 5 + 128))) := by
      rw [bVal_nat (by omega), bCells_sing, bCells_ovr]
      have := ovr_set (l := B) (i := 5) (by omega) (UInt8.ofNat (bt B 5 + 128))
      rw [← this]; rfl
    have hset : B.set 5 (UInt8.ofNat (bt B 5 + 128)) = (headB p.length T F S).set 5 (UInt8.ofNat (bt B 5 + 128)) ++ (p ++ []) := by
      rw [hB, List.append_nil]
      exact List.set_append_left 5 _ (by show 5 < 9; omega)
    have hsl : (B.set 5 (UInt8.ofNat (bt B 5 + 128))).length = B.length := List.length_set
    obtain ⟨k1, k2, k3, k4⟩ := high_bt p.length T F S (by omega) (UInt8.ofNat (bt B 5 + 128)) (by rw [u8_toNat_ofNat (by omega), hb5])
    have hfp := fr_put p [] T F S (by omega) (by omega) (by omega) (by rw [hq]; omega)
    have hlen0 : lenF (headB p.length T F S) = p.length := by
      obtain ⟨q0, q1, q2, _⟩ := head_bt p.length T F S
      unfold lenF; rw [q0, q1, q2]; try omega
    have hstr : strF (headB p.length T F S) = S := by
      obtain ⟨_, _, _, _, _, q5, q6, q7, q8⟩ := head_bt p.length T F S
      unfold strF; rw [q5, q6, q7, q8]; omega
    have h3' : bt (headB p.length T F S) 3 = T := by rw [(head_bt p.length T F S).2.2.2.1]; omega
    have h4' : bt (headB p.length T F S) 4 = F := by rw [(head_bt p.length T F S).2.2.2.2.1]; omega
    obtain ⟨C, hC⟩ : ∃ C, C = B.set 5 (UInt8.ofNat (bt B 5 + 128)) := ⟨_, rfl⟩
    have hR : fdR 16384 ⟨[], 0, false⟩ C = ([⟨T, F, S, p⟩], 9 + p.length + 0, false) := by
      have hr := run_head 16384 C.length ((headB p.length T F S).set 5 (UInt8.ofNat (bt B 5 + 128))) p [] (by rw [List.length_set]; rfl) (by rw [k1, hlen0, hq]) (by rw [hq]; omega) (by rw [← hset, ← hC]; exact Nat.le_refl _)
      rw [run_nil, k2, k3, k4, hstr, h3', h4'] at hr
      rw [fdR_new]; conv => lhs; arg 3; rw [hC, hset]
      exact hr
    have f1 : fdL 16384 ⟨[], 0, false⟩ C = [⟨T, F, S, p⟩] := by unfold fdL; rw [hR]; rfl
    have f2 : fdB 16384 ⟨[], 0, false⟩ C = false := by unfold fdB; rw [hR]; rfl
    obtain ⟨e1, e2, e3, e4, e5, e6, e7⟩ := z_new 16384 C
    rw [f1] at e1 e7
    rw [f2] at e5 e6
    simp only [hzP, hzn, c5, hor, hov, ← hC]
    have htC : List.take B.length (bCells C) = bCells C := List.take_of_length_le (by rw [bCells_len, hC, hsl]; exact Nat.le_refl _)
    have hCl : C.length = B.length := by rw [hC, hsl]
    simp only [htC, e1, e5, e6, e7, bCells_len, hCl]
    have hE : gC enG [⟨T, F, S, p⟩] = gC enH [⟨T, F, S, gCode (bCells p), 0, p.length⟩] := by
      have : gC enG [⟨T, F, S, p⟩] = gC enH [⟨T, F, S, gCode (bCells p), 0, p.length⟩] := rfl
      first | exact this | rw [this, hq]
    have hT4 : List.take ([(⟨T, F, S, p⟩ : Bf)].length * 4) (gC enG [⟨T, F, S, p⟩]) = gC enH [⟨T, F, S, gCode (bCells p), 0, p.length⟩] := by
      rw [hE]; rfl
    have hzq : gCells (gCode (bCells p)) = bCells p := gCells_code (bCells_g _)
    have o1 : FOk ⟨T, F, S, gCode (bCells p), 0, p.length⟩ := ⟨p, by simp only; rw [hzq, List.drop_zero, List.take_of_length_le (by rw [bCells_len, hq]; exact Nat.le_refl _)], hq, by simp only; omega, by simp only; rw [hzq, bCells_len, hq]; omega⟩
    have hsh : List.take p.length (bCells p) = bCells p := by rw [bCells_take, List.take_length]
    have o2 : FOk ⟨T, F, S, gCode (bCells p), 0, p.length⟩ := ⟨p, by simp only; rw [hz, List.drop_zero, hsh], hq, by simp only; omega, by simp only; rw [hz, bCells_len]; omega⟩
    have hv : [(⟨T, F, S, gCode (bCells p), 0, p.length⟩ : Gf)].map vw = [(⟨T, F, S, gCode (bCells p), 0, p.length⟩ : Gf)].map vw := by
      first | rfl | (simp only [List.map_cons, List.map_nil, vw, gB]; rw [hzq, hz, List.drop_zero, List.drop_zero, hsh, List.take_of_length_le (by rw [bCells_len, hq]; exact Nat.le_refl _)])
    have hzF : zF ⟨gC enH [⟨T, F, S, gCode (bCells p), 0, p.length⟩], true, .cells true⟩ ⟨[Value.int IntKind.i64 T, Value.int IntKind.i64 F, Value.int IntKind.i64 S, Value.slice (some { block := gCode (bCells p), off := 0, spot := some 0 }) p.length 1], true, .cells true⟩ = true :=
      (zF_mk [⟨T, F, S, gCode (bCells p), 0, p.length⟩] [⟨T, F, S, gCode (bCells p), 0, p.length⟩] true true).trans (decide_eq_true hv)
    have sing1 : ∀ x : Gf, FOk x → ∀ y ∈ [x], FOk y := fun x hx y hy => by rw [List.mem_singleton] at hy; rw [hy]; exact hx
    have pl2 : Plain [Value.int IntKind.i64 T, Value.int IntKind.i64 F, Value.int IntKind.i64 S, Value.slice (some { block := gCode (bCells p), off := 0, spot := some 0 }) p.length 1] := enH_pl [⟨T, F, S, gCode (bCells p), 0, p.length⟩]
    rw [hT4, hzF]
    exact ⟨⟨by omega, isB_mk [] 0 rfl, isB_mk _ _ hq.symm, by omega, by omega⟩, br_nd (by omega) (br_dec (by omega) ⟨by rw [a5, c5], br_dec (by omega) (br_dec (by omega) ⟨⟨⟨Nat.le_refl _, bCells_plain _⟩, enG_pl _, isB_mk _ _ hCl.symm, by omega⟩, br_b rfl ⟨⟨⟨⟨by rw [gC_len enG_k]; exact Nat.le_refl _, enH_pl _⟩, by omega, pl2⟩, ⟨_, rfl, rfl, sing1 _ o1⟩, ⟨[⟨T, F, S, gCode (bCells p), 0, p.length⟩], rfl, rfl, sing1 _ o2⟩, by simp⟩, br_b rfl trivial⟩⟩)⟩)⟩
end Go.Proofs.Ytkeiogmapogpnaa.fe
