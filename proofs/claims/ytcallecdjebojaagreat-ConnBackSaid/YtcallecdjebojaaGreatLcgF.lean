/- ConnFlow: bytes that nobody credits are taken up to the window. -/
import Derived.Test.YtcallecdjebojaaGreatSz9
import Derived.Test.YtcallecdjebojaaGreatRows
import Derived.Test.YtcallecdjebojaaGreatLcgA
import Derived.Test.YtcallecdjebojaaGreatLcut
set_option maxRecDepth 20000
set_option linter.unusedSimpArgs false
set_option linter.unusedVariables false
namespace Go.Proofs.YtcallecdjebojaaGreat.cg
open Go Go.Ev Go.Sy Go.RowKit Go.Proofs.YtcallecdjebojaaGreat.gl Go.Proofs.YtcallecdjebojaaGreat.tk Go.Proofs.YtcallecdjebojaaGreat.cp Go.Proofs.YtcallecdjebojaaGreat.s9 Go.Proofs.YtcallecdjebojaaGreat.fd Go.Proofs.YtcallecdjebojaaGreat.fe Go.Proofs.YtcallecdjebojaaGreat.cu
noncomputable def eRunsG : EntM := entC 3 fun a r => match a, r with
  | [], [] => some (True, .bool true, [])
  | _, _ => none
noncomputable def eRigT : EntM := entC 57 fun a r => match a, r with
  | [.agg ⟨[.int .i64 t, .int .i64 f, .int .i64 s, .slice (some ⟨0, 0, none⟩) n 1]⟩], [r0] => some (IsB r0 n ∧ rightB t f s n = true, .bool true, [])
  | _, _ => none
noncomputable def eRi9 : EntM := entC 59 fun a r => match a, r with
  | [.agg ⟨[.int .i64 t, .int .i64 f, .int .i64 s, .slice (some ⟨0, 0, none⟩) n 1]⟩], [r0] => some (IsB r0 n ∧ rightB t f s n = true, .bool true, [])
  | _, _ => none
noncomputable def eWiG : EntM := entC 27 fun a r => match a, r with
  | [.int .i64 n, .int .i64 lo, .int .i64 hi], [] => some (I64 n ∧ -1000000000000 ≤ lo ∧ hi ≤ 1000000000000 ∧ lo ≤ hi, .int .i64 (Go.Proofs.YtcallecdjebojaaGreat.tk.inside n lo hi), [])
  | _, _ => none
noncomputable def tFl : List EntM := [eRunsG, eWiG, eRigT, eRi9, eFdD 0]
noncomputable abbrev EFl : Env := envTc Tryz.prog tFl
noncomputable abbrev EFr : Env := envCut EFl [50, 76, 85, 81]
def pF : List Nat := [0, 0, 1, 1, 1, 1, 1]
def cnW (w : Int) : Row := ⟨[.bool true, .int .i64 2, .int .i64 65535, .int .i64 65536, .int .i64 4096, .int .i64 2147483647, .int .i64 65535, .int .i64 16384, .int .i64 2147483647, .slice (some ⟨1, 36, none⟩) 0 1, .pointer (some ⟨2, 0, none⟩), .pointer (some ⟨4, 0, none⟩), .pointer (some ⟨5, 0, none⟩), .int .i64 65535, .int .i64 w, .slice (some ⟨6, 0, none⟩) 1 1, .slice none 0 0, .int .i64 1, .int .i64 1, .bool true, .bool false, .bool false, .bool false, .bool false, .int .i64 0, .slice none 0 0, .bool false, .slice none 0 0], false, .cells false⟩
def flW (w : Int) : Row := ⟨[.int .i64 1, .int .i64 1, .int .i64 65535, .int .i64 w, .bool true, .bool false], false, .cells false⟩
noncomputable def rlF (w : Int) (x : List UInt8) (k : Nat) : List (Nat × Row) := [(0, cnW w), (1, quB), (2, cp.rdB 3 k 0), (3, bOwn x), (4, unB 8), (5, pkB 9), (6, ⟨[.pointer (some ⟨7, 0, none⟩)], false, .cells false⟩), (7, flW w), (8, tbB), (9, tbB)]
structure FS where
  n : Nat
  w : Int
  x : List UInt8
  k : Nat
structure GR where
  o : Int
  x : List UInt8
  k : Nat
structure G8 where
  o : Int
  n : Nat
  K : Nat
  w : Int
  x : List UInt8
  k : Nat
def p8 : List Nat := [1, 0, 1, 0, 0, 0, 1, 1, 1, 1, 1]
def sl8 (g : G8) : List (Nat × Value) := [(0, .int .i64 g.o), (3, .pointer (some ⟨0, 0, none⟩)), (4, .int .i64 (g.n : Nat)), (5, .int .i64 (g.K : Nat))]
def dD (fl K : Nat) : List UInt8 := headB K 0 fl 1 ++ List.replicate K 0
noncomputable def ws8 (g : G8) : List (Gate Unit) := [⟨.normal, fun _ => True, fun _ => [(0, .int .i64 g.o), (3, .pointer (some ⟨0, 0, none⟩)), (4, .int .i64 ((g.n + g.K : Nat) : Int))], fun _ => rlF (g.w - g.K) (dD 0 g.K) (9 + g.K), 10⟩]
noncomputable def spec8 : Sy.Spec := specOf 0 10 52 (fun g : G8 => 1 ≤ g.K ∧ g.K ≤ 16000 ∧ g.n + g.K ≤ 65535 ∧ g.w = 65535 - (g.n : Int) ∧ g.x.length = g.k ∧ g.k ≤ 20000) sl8 (fun g => rlF g.w g.x g.k) ws8
theorem E_round (g : G8) : mev EFr noM 400 10 p8 false (codeOf Tryz.prog 10 p8) ⟨mkOv (sl8 g), 52, []⟩ none ⟨mkR (rlF g.w g.x g.k), 10⟩ (Sy.endsIn 0 52 (ws8 g)) =
  (br (decide ((0 : Int) <= (↑g.3 : Int) /\ (↑g.3 : Int) <= (↑g.3 : Int) /\ (↑g.3 : Int) <= (16777216 : Int))) (((((True /\ (True /\ (True /\ ((0 + Int.toNat (↑g.3 : Int) *
  1 <= List.length (List.replicate (Int.toNat (↑g.3 : Int)) (Value.int IntKind.u8 (0 : Int))) /\ Plain (List.take (Int.toNat (↑g.3 : Int) * 1) (List.drop 0 (List.replicate
  (Int.toNat (↑g.3 : Int)) (Value.int IntKind.u8 (0 : Int)))))) /\ True)))) /\ True) /\ ((True /\ True) /\ (True /\ (IsB (Row.mk (List.take (Int.toNat (↑g.3 : Int) * 1)
  (List.drop 0 (List.replicate (Int.toNat (↑g.3 : Int)) (Value.int IntKind.u8 (0 : Int))))) true (Ob.cells true)) (Int.toNat (↑g.3 : Int)) /\ rightB (0 : Int) (0 : Int) (1 :
  Int) (Int.toNat (↑g.3 : Int)) = true))))) /\ (br (decide (0 + Int.toNat (↑g.3 : Int) * 1 <= List.length (List.replicate (Int.toNat (↑g.3 : Int)) (Value.int IntKind.u8 (0 :
  Int))))) (br (allOne (List.take (Int.toNat (↑g.3 : Int) * 1) (List.drop 0 (List.replicate (Int.toNat (↑g.3 : Int)) (Value.int IntKind.u8 (0 : Int)))))) (br (decide (9 +
  Int.toNat (↑g.3 : Int) <= 16777216)) ((((True /\ ((0 + (9 + Int.toNat (↑g.3 : Int)) * 1 <= List.length (Value.int IntKind.u8 (IntKind.wrap IntKind.u8 (ishr IntKind.i64
  (Int.ofNat (Int.toNat (↑g.3 : Int))) (16 : Int))) :: Value.int IntKind.u8 (IntKind.wrap IntKind.u8 (ishr IntKind.i64 (Int.ofNat (Int.toNat (↑g.3 : Int))) (8 : Int))) ::
  Value.int IntKind.u8 (IntKind.wrap IntKind.u8 (Int.ofNat (Int.toNat (↑g.3 : Int)))) :: Value.int IntKind.u8 (0 : Int) :: Value.int IntKind.u8 (0 : Int) :: Value.int
  IntKind.u8 (0 : Int) :: Value.int IntKind.u8 (0 : Int) :: Value.int IntKind.u8 (0 : Int) :: Value.int IntKind.u8 (1 : Int) :: ([] ++ List.take (Int.toNat (↑g.3 : Int) * 1)
  (List.drop 0 (List.replicate (Int.toNat (↑g.3 : Int)) (Value.int IntKind.u8 (0 : Int)))))) /\ Plain (List.take ((9 + Int.toNat (↑g.3 : Int)) * 1) (Value.int IntKind.u8
  (IntKind.wrap IntKind.u8 (ishr IntKind.i64 (Int.ofNat (Int.toNat (↑g.3 : Int))) (16 : Int))) :: Value.int IntKind.u8 (IntKind.wrap IntKind.u8 (ishr IntKind.i64 (Int.ofNat
  (Int.toNat (↑g.3 : Int))) (8 : Int))) :: Value.int IntKind.u8 (IntKind.wrap IntKind.u8 (Int.ofNat (Int.toNat (↑g.3 : Int)))) :: Value.int IntKind.u8 (0 : Int) :: Value.int
  IntKind.u8 (0 : Int) :: Value.int IntKind.u8 (0 : Int) :: Value.int IntKind.u8 (0 : Int) :: Value.int IntKind.u8 (0 : Int) :: Value.int IntKind.u8 (1 : Int) :: ([] ++
  List.take (Int.toNat (↑g.3 : Int) * 1) (List.drop 0 (List.replicate (Int.toNat (↑g.3 : Int)) (Value.int IntKind.u8 (0 : Int)))))))) /\ True)) /\ (((True /\ (True /\ (True
  /\ (True /\ (True /\ (True /\ True)))))) /\ (True /\ (Plain (bCells g.5) /\ True))) /\ ((Plain (bCells (yP (Row.mk (List.take ((9 + Int.toNat (↑g.3 : Int)) * 1) (Value.int
  IntKind.u8 (IntKind.wrap IntKind.u8 (ishr IntKind.i64 (Int.ofNat (Int.toNat (↑g.3 : Int))) (16 : Int))) :: Value.int IntKind.u8 (IntKind.wrap IntKind.u8 (ishr IntKind.i64
  (Int.ofNat (Int.toNat (↑g.3 : Int))) (8 : Int))) :: Value.int IntKind.u8 (IntKind.wrap IntKind.u8 (Int.ofNat (Int.toNat (↑g.3 : Int)))) :: Value.int IntKind.u8 (0 : Int)
  :: Value.int IntKind.u8 (0 : Int) :: Value.int IntKind.u8 (0 : Int) :: Value.int IntKind.u8 (0 : Int) :: Value.int IntKind.u8 (0 : Int) :: Value.int IntKind.u8 (1 : Int)
  :: ([] ++ List.take (Int.toNat (↑g.3 : Int) * 1) (List.drop 0 (List.replicate (Int.toNat (↑g.3 : Int)) (Value.int IntKind.u8 (0 : Int))))))) true (Ob.cells true)))) /\
  (Plain [Value.int IntKind.i64 (0 : Int), Value.int IntKind.i64 (0 : Int), Value.int IntKind.i64 (1 : Int), Value.slice (some (Addr.mk (yZ (Row.mk (List.take ((9 +
  Int.toNat (↑g.3 : Int)) * 1) (Value.int IntKind.u8 (IntKind.wrap IntKind.u8 (ishr IntKind.i64 (Int.ofNat (Int.toNat (↑g.3 : Int))) (16 : Int))) :: Value.int IntKind.u8
  (IntKind.wrap IntKind.u8 (ishr IntKind.i64 (Int.ofNat (Int.toNat (↑g.3 : Int))) (8 : Int))) :: Value.int IntKind.u8 (IntKind.wrap IntKind.u8 (Int.ofNat (Int.toNat (↑g.3 :
  Int)))) :: Value.int IntKind.u8 (0 : Int) :: Value.int IntKind.u8 (0 : Int) :: Value.int IntKind.u8 (0 : Int) :: Value.int IntKind.u8 (0 : Int) :: Value.int IntKind.u8 (0
  : Int) :: Value.int IntKind.u8 (1 : Int) :: ([] ++ List.take (Int.toNat (↑g.3 : Int) * 1) (List.drop 0 (List.replicate (Int.toNat (↑g.3 : Int)) (Value.int IntKind.u8 (0 :
  Int))))))) true (Ob.cells true))) 0 (some 0))) (9 + Int.toNat (↑g.3 : Int) - 9) 1] /\ True)) /\ (0 = 0 /\ ((16384 : Int) = (16384 : Int) /\ (ByteArray.mk #[] =
  ByteArray.mk #[] /\ ((0 : Int) = (0 : Int) /\ ((0 : Int) = (0 : Int) /\ (IsO (Row.mk (bCells g.5) false (Ob.cells true)) g.6 /\ HdR 0 (Row.mk (List.take ((9 + Int.toNat
  (↑g.3 : Int)) * 1) (Value.int IntKind.u8 (IntKind.wrap IntKind.u8 (ishr IntKind.i64 (Int.ofNat (Int.toNat (↑g.3 : Int))) (16 : Int))) :: Value.int IntKind.u8 (IntKind.wrap
  IntKind.u8 (ishr IntKind.i64 (Int.ofNat (Int.toNat (↑g.3 : Int))) (8 : Int))) :: Value.int IntKind.u8 (IntKind.wrap IntKind.u8 (Int.ofNat (Int.toNat (↑g.3 : Int)))) ::
  Value.int IntKind.u8 (0 : Int) :: Value.int IntKind.u8 (0 : Int) :: Value.int IntKind.u8 (0 : Int) :: Value.int IntKind.u8 (0 : Int) :: Value.int IntKind.u8 (0 : Int) ::
  Value.int IntKind.u8 (1 : Int) :: ([] ++ List.take (Int.toNat (↑g.3 : Int) * 1) (List.drop 0 (List.replicate (Int.toNat (↑g.3 : Int)) (Value.int IntKind.u8 (0 : Int)))))))
  true (Ob.cells true)) (9 + Int.toNat (↑g.3 : Int)))))))))))) /\ ((Eq (α := Option Value) (some (Value.int IntKind.i64 (0 : Int))) (some (Value.int IntKind.i64 (cellI
  [Value.int IntKind.i64 (0 : Int), Value.int IntKind.i64 (0 : Int), Value.int IntKind.i64 (1 : Int), Value.slice (some (Addr.mk (yZ (Row.mk (List.take ((9 + Int.toNat (↑g.3
  : Int)) * 1) (Value.int IntKind.u8 (IntKind.wrap IntKind.u8 (ishr IntKind.i64 (Int.ofNat (Int.toNat (↑g.3 : Int))) (16 : Int))) :: Value.int IntKind.u8 (IntKind.wrap
  IntKind.u8 (ishr IntKind.i64 (Int.ofNat (Int.toNat (↑g.3 : Int))) (8 : Int))) :: Value.int IntKind.u8 (IntKind.wrap IntKind.u8 (Int.ofNat (Int.toNat (↑g.3 : Int)))) ::
  Value.int IntKind.u8 (0 : Int) :: Value.int IntKind.u8 (0 : Int) :: Value.int IntKind.u8 (0 : Int) :: Value.int IntKind.u8 (0 : Int) :: Value.int IntKind.u8 (0 : Int) ::
  Value.int IntKind.u8 (1 : Int) :: ([] ++ List.take (Int.toNat (↑g.3 : Int) * 1) (List.drop 0 (List.replicate (Int.toNat (↑g.3 : Int)) (Value.int IntKind.u8 (0 : Int)))))))
  true (Ob.cells true))) 0 (some 0))) (9 + Int.toNat (↑g.3 : Int) - 9) 1] 0)))) /\ ((Eq (α := Option Value) (some (Value.int IntKind.i64 (0 : Int))) (some (Value.int
  IntKind.i64 (cellI [Value.int IntKind.i64 (0 : Int), Value.int IntKind.i64 (0 : Int), Value.int IntKind.i64 (1 : Int), Value.slice (some (Addr.mk (yZ (Row.mk (List.take
  ((9 + Int.toNat (↑g.3 : Int)) * 1) (Value.int IntKind.u8 (IntKind.wrap IntKind.u8 (ishr IntKind.i64 (Int.ofNat (Int.toNat (↑g.3 : Int))) (16 : Int))) :: Value.int
  IntKind.u8 (IntKind.wrap IntKind.u8 (ishr IntKind.i64 (Int.ofNat (Int.toNat (↑g.3 : Int))) (8 : Int))) :: Value.int IntKind.u8 (IntKind.wrap IntKind.u8 (Int.ofNat
  (Int.toNat (↑g.3 : Int)))) :: Value.int IntKind.u8 (0 : Int) :: Value.int IntKind.u8 (0 : Int) :: Value.int IntKind.u8 (0 : Int) :: Value.int IntKind.u8 (0 : Int) ::
  Value.int IntKind.u8 (0 : Int) :: Value.int IntKind.u8 (1 : Int) :: ([] ++ List.take (Int.toNat (↑g.3 : Int) * 1) (List.drop 0 (List.replicate (Int.toNat (↑g.3 : Int))
  (Value.int IntKind.u8 (0 : Int))))))) true (Ob.cells true))) 0 (some 0))) (9 + Int.toNat (↑g.3 : Int) - 9) 1] 1)))) /\ ((Eq (α := Option Value) (some (Value.int
  IntKind.i64 (1 : Int))) (some (Value.int IntKind.i64 (cellI [Value.int IntKind.i64 (0 : Int), Value.int IntKind.i64 (0 : Int), Value.int IntKind.i64 (1 : Int), Value.slice
  (some (Addr.mk (yZ (Row.mk (List.take ((9 + Int.toNat (↑g.3 : Int)) * 1) (Value.int IntKind.u8 (IntKind.wrap IntKind.u8 (ishr IntKind.i64 (Int.ofNat (Int.toNat (↑g.3 :
  Int))) (16 : Int))) :: Value.int IntKind.u8 (IntKind.wrap IntKind.u8 (ishr IntKind.i64 (Int.ofNat (Int.toNat (↑g.3 : Int))) (8 : Int))) :: Value.int IntKind.u8
  (IntKind.wrap IntKind.u8 (Int.ofNat (Int.toNat (↑g.3 : Int)))) :: Value.int IntKind.u8 (0 : Int) :: Value.int IntKind.u8 (0 : Int) :: Value.int IntKind.u8 (0 : Int) ::
  Value.int IntKind.u8 (0 : Int) :: Value.int IntKind.u8 (0 : Int) :: Value.int IntKind.u8 (1 : Int) :: ([] ++ List.take (Int.toNat (↑g.3 : Int) * 1) (List.drop 0
  (List.replicate (Int.toNat (↑g.3 : Int)) (Value.int IntKind.u8 (0 : Int))))))) true (Ob.cells true))) 0 (some 0))) (9 + Int.toNat (↑g.3 : Int) - 9) 1] 2)))) /\ ((Eq (α :=
  Option Value) (some (Value.slice (some (Addr.mk (yZ (Row.mk (List.take ((9 + Int.toNat (↑g.3 : Int)) * 1) (Value.int IntKind.u8 (IntKind.wrap IntKind.u8 (ishr IntKind.i64
  (Int.ofNat (Int.toNat (↑g.3 : Int))) (16 : Int))) :: Value.int IntKind.u8 (IntKind.wrap IntKind.u8 (ishr IntKind.i64 (Int.ofNat (Int.toNat (↑g.3 : Int))) (8 : Int))) ::
  Value.int IntKind.u8 (IntKind.wrap IntKind.u8 (Int.ofNat (Int.toNat (↑g.3 : Int)))) :: Value.int IntKind.u8 (0 : Int) :: Value.int IntKind.u8 (0 : Int) :: Value.int
  IntKind.u8 (0 : Int) :: Value.int IntKind.u8 (0 : Int) :: Value.int IntKind.u8 (0 : Int) :: Value.int IntKind.u8 (1 : Int) :: ([] ++ List.take (Int.toNat (↑g.3 : Int) * 1)
  (List.drop 0 (List.replicate (Int.toNat (↑g.3 : Int)) (Value.int IntKind.u8 (0 : Int))))))) true (Ob.cells true))) 0 (some 0))) (9 + Int.toNat (↑g.3 : Int) - 9) 1)) (some
  (Value.slice (some (Addr.mk (cellZ [Value.int IntKind.i64 (0 : Int), Value.int IntKind.i64 (0 : Int), Value.int IntKind.i64 (1 : Int), Value.slice (some (Addr.mk (yZ
  (Row.mk (List.take ((9 + Int.toNat (↑g.3 : Int)) * 1) (Value.int IntKind.u8 (IntKind.wrap IntKind.u8 (ishr IntKind.i64 (Int.ofNat (Int.toNat (↑g.3 : Int))) (16 : Int))) ::
  Value.int IntKind.u8 (IntKind.wrap IntKind.u8 (ishr IntKind.i64 (Int.ofNat (Int.toNat (↑g.3 : Int))) (8 : Int))) :: Value.int IntKind.u8 (IntKind.wrap IntKind.u8
  (Int.ofNat (Int.toNat (↑g.3 : Int)))) :: Value.int IntKind.u8 (0 : Int) :: Value.int IntKind.u8 (0 : Int) :: Value.int IntKind.u8 (0 : Int) :: Value.int IntKind.u8 (0 :
  Int) :: Value.int IntKind.u8 (0 : Int) :: Value.int IntKind.u8 (1 : Int) :: ([] ++ List.take (Int.toNat (↑g.3 : Int) * 1) (List.drop 0 (List.replicate (Int.toNat (↑g.3 :
  Int)) (Value.int IntKind.u8 (0 : Int))))))) true (Ob.cells true))) 0 (some 0))) (9 + Int.toNat (↑g.3 : Int) - 9) 1] 3) (cellO [Value.int IntKind.i64 (0 : Int), Value.int
  IntKind.i64 (0 : Int), Value.int IntKind.i64 (1 : Int), Value.slice (some (Addr.mk (yZ (Row.mk (List.take ((9 + Int.toNat (↑g.3 : Int)) * 1) (Value.int IntKind.u8
  (IntKind.wrap IntKind.u8 (ishr IntKind.i64 (Int.ofNat (Int.toNat (↑g.3 : Int))) (16 : Int))) :: Value.int IntKind.u8 (IntKind.wrap IntKind.u8 (ishr IntKind.i64 (Int.ofNat
  (Int.toNat (↑g.3 : Int))) (8 : Int))) :: Value.int IntKind.u8 (IntKind.wrap IntKind.u8 (Int.ofNat (Int.toNat (↑g.3 : Int)))) :: Value.int IntKind.u8 (0 : Int) :: Value.int
  IntKind.u8 (0 : Int) :: Value.int IntKind.u8 (0 : Int) :: Value.int IntKind.u8 (0 : Int) :: Value.int IntKind.u8 (0 : Int) :: Value.int IntKind.u8 (1 : Int) :: ([] ++
  List.take (Int.toNat (↑g.3 : Int) * 1) (List.drop 0 (List.replicate (Int.toNat (↑g.3 : Int)) (Value.int IntKind.u8 (0 : Int))))))) true (Ob.cells true))) 0 (some 0))) (9 +
  Int.toNat (↑g.3 : Int) - 9) 1] 3) (some 0))) (cellN [Value.int IntKind.i64 (0 : Int), Value.int IntKind.i64 (0 : Int), Value.int IntKind.i64 (1 : Int), Value.slice (some
  (Addr.mk (yZ (Row.mk (List.take ((9 + Int.toNat (↑g.3 : Int)) * 1) (Value.int IntKind.u8 (IntKind.wrap IntKind.u8 (ishr IntKind.i64 (Int.ofNat (Int.toNat (↑g.3 : Int)))
  (16 : Int))) :: Value.int IntKind.u8 (IntKind.wrap IntKind.u8 (ishr IntKind.i64 (Int.ofNat (Int.toNat (↑g.3 : Int))) (8 : Int))) :: Value.int IntKind.u8 (IntKind.wrap
  IntKind.u8 (Int.ofNat (Int.toNat (↑g.3 : Int)))) :: Value.int IntKind.u8 (0 : Int) :: Value.int IntKind.u8 (0 : Int) :: Value.int IntKind.u8 (0 : Int) :: Value.int
  IntKind.u8 (0 : Int) :: Value.int IntKind.u8 (0 : Int) :: Value.int IntKind.u8 (1 : Int) :: ([] ++ List.take (Int.toNat (↑g.3 : Int) * 1) (List.drop 0 (List.replicate
  (Int.toNat (↑g.3 : Int)) (Value.int IntKind.u8 (0 : Int))))))) true (Ob.cells true))) 0 (some 0))) (9 + Int.toNat (↑g.3 : Int) - 9) 1] 3) 1))) /\ (((((True /\ (True /\
  (True /\ (cellO [Value.int IntKind.i64 (0 : Int), Value.int IntKind.i64 (0 : Int), Value.int IntKind.i64 (1 : Int), Value.slice (some (Addr.mk (yZ (Row.mk (List.take ((9 +
  Int.toNat (↑g.3 : Int)) * 1) (Value.int IntKind.u8 (IntKind.wrap IntKind.u8 (ishr IntKind.i64 (Int.ofNat (Int.toNat (↑g.3 : Int))) (16 : Int))) :: Value.int IntKind.u8
  (IntKind.wrap IntKind.u8 (ishr IntKind.i64 (Int.ofNat (Int.toNat (↑g.3 : Int))) (8 : Int))) :: Value.int IntKind.u8 (IntKind.wrap IntKind.u8 (Int.ofNat (Int.toNat (↑g.3 :
  Int)))) :: Value.int IntKind.u8 (0 : Int) :: Value.int IntKind.u8 (0 : Int) :: Value.int IntKind.u8 (0 : Int) :: Value.int IntKind.u8 (0 : Int) :: Value.int IntKind.u8 (0
  : Int) :: Value.int IntKind.u8 (1 : Int) :: ([] ++ List.take (Int.toNat (↑g.3 : Int) * 1) (List.drop 0 (List.replicate (Int.toNat (↑g.3 : Int)) (Value.int IntKind.u8 (0 :
  Int))))))) true (Ob.cells true))) 0 (some 0))) (9 + Int.toNat (↑g.3 : Int) - 9) 1] 3 + cellN [Value.int IntKind.i64 (0 : Int), Value.int IntKind.i64 (0 : Int), Value.int
  IntKind.i64 (1 : Int), Value.slice (some (Addr.mk (yZ (Row.mk (List.take ((9 + Int.toNat (↑g.3 : Int)) * 1) (Value.int IntKind.u8 (IntKind.wrap IntKind.u8 (ishr
  IntKind.i64 (Int.ofNat (Int.toNat (↑g.3 : Int))) (16 : Int))) :: Value.int IntKind.u8 (IntKind.wrap IntKind.u8 (ishr IntKind.i64 (Int.ofNat (Int.toNat (↑g.3 : Int))) (8 :
  Int))) :: Value.int IntKind.u8 (IntKind.wrap IntKind.u8 (Int.ofNat (Int.toNat (↑g.3 : Int)))) :: Value.int IntKind.u8 (0 : Int) :: Value.int IntKind.u8 (0 : Int) ::
  Value.int IntKind.u8 (0 : Int) :: Value.int IntKind.u8 (0 : Int) :: Value.int IntKind.u8 (0 : Int) :: Value.int IntKind.u8 (1 : Int) :: ([] ++ List.take (Int.toNat (↑g.3 :
  Int) * 1) (List.drop 0 (List.replicate (Int.toNat (↑g.3 : Int)) (Value.int IntKind.u8 (0 : Int))))))) true (Ob.cells true))) 0 (some 0))) (9 + Int.toNat (↑g.3 : Int) - 9)
  1] 3 * 1 <= List.length (gCells (cellZ [Value.int IntKind.i64 (0 : Int), Value.int IntKind.i64 (0 : Int), Value.int IntKind.i64 (1 : Int), Value.slice (some (Addr.mk (yZ
  (Row.mk (List.take ((9 + Int.toNat (↑g.3 : Int)) * 1) (Value.int IntKind.u8 (IntKind.wrap IntKind.u8 (ishr IntKind.i64 (Int.ofNat (Int.toNat (↑g.3 : Int))) (16 : Int))) ::
  Value.int IntKind.u8 (IntKind.wrap IntKind.u8 (ishr IntKind.i64 (Int.ofNat (Int.toNat (↑g.3 : Int))) (8 : Int))) :: Value.int IntKind.u8 (IntKind.wrap IntKind.u8
  (Int.ofNat (Int.toNat (↑g.3 : Int)))) :: Value.int IntKind.u8 (0 : Int) :: Value.int IntKind.u8 (0 : Int) :: Value.int IntKind.u8 (0 : Int) :: Value.int IntKind.u8 (0 :
  Int) :: Value.int IntKind.u8 (0 : Int) :: Value.int IntKind.u8 (1 : Int) :: ([] ++ List.take (Int.toNat (↑g.3 : Int) * 1) (List.drop 0 (List.replicate (Int.toNat (↑g.3 :
  Int)) (Value.int IntKind.u8 (0 : Int))))))) true (Ob.cells true))) 0 (some 0))) (9 + Int.toNat (↑g.3 : Int) - 9) 1] 3)) /\ True)))) /\ True) /\ ((True /\ True) /\ (True /\
  (IsB (Row.mk (List.take (cellN [Value.int IntKind.i64 (0 : Int), Value.int IntKind.i64 (0 : Int), Value.int IntKind.i64 (1 : Int), Value.slice (some (Addr.mk (yZ (Row.mk
  (List.take ((9 + Int.toNat (↑g.3 : Int)) * 1) (Value.int IntKind.u8 (IntKind.wrap IntKind.u8 (ishr IntKind.i64 (Int.ofNat (Int.toNat (↑g.3 : Int))) (16 : Int))) ::
  Value.int IntKind.u8 (IntKind.wrap IntKind.u8 (ishr IntKind.i64 (Int.ofNat (Int.toNat (↑g.3 : Int))) (8 : Int))) :: Value.int IntKind.u8 (IntKind.wrap IntKind.u8
  (Int.ofNat (Int.toNat (↑g.3 : Int)))) :: Value.int IntKind.u8 (0 : Int) :: Value.int IntKind.u8 (0 : Int) :: Value.int IntKind.u8 (0 : Int) :: Value.int IntKind.u8 (0 :
  Int) :: Value.int IntKind.u8 (0 : Int) :: Value.int IntKind.u8 (1 : Int) :: ([] ++ List.take (Int.toNat (↑g.3 : Int) * 1) (List.drop 0 (List.replicate (Int.toNat (↑g.3 :
  Int)) (Value.int IntKind.u8 (0 : Int))))))) true (Ob.cells true))) 0 (some 0))) (9 + Int.toNat (↑g.3 : Int) - 9) 1] 3 * 1) (List.drop (cellO [Value.int IntKind.i64 (0 :
  Int), Value.int IntKind.i64 (0 : Int), Value.int IntKind.i64 (1 : Int), Value.slice (some (Addr.mk (yZ (Row.mk (List.take ((9 + Int.toNat (↑g.3 : Int)) * 1) (Value.int
  IntKind.u8 (IntKind.wrap IntKind.u8 (ishr IntKind.i64 (Int.ofNat (Int.toNat (↑g.3 : Int))) (16 : Int))) :: Value.int IntKind.u8 (IntKind.wrap IntKind.u8 (ishr IntKind.i64
  (Int.ofNat (Int.toNat (↑g.3 : Int))) (8 : Int))) :: Value.int IntKind.u8 (IntKind.wrap IntKind.u8 (Int.ofNat (Int.toNat (↑g.3 : Int)))) :: Value.int IntKind.u8 (0 : Int)
  :: Value.int IntKind.u8 (0 : Int) :: Value.int IntKind.u8 (0 : Int) :: Value.int IntKind.u8 (0 : Int) :: Value.int IntKind.u8 (0 : Int) :: Value.int IntKind.u8 (1 : Int)
  :: ([] ++ List.take (Int.toNat (↑g.3 : Int) * 1) (List.drop 0 (List.replicate (Int.toNat (↑g.3 : Int)) (Value.int IntKind.u8 (0 : Int))))))) true (Ob.cells true))) 0 (some
  0))) (9 + Int.toNat (↑g.3 : Int) - 9) 1] 3) (gCells (cellZ [Value.int IntKind.i64 (0 : Int), Value.int IntKind.i64 (0 : Int), Value.int IntKind.i64 (1 : Int), Value.slice
  (some (Addr.mk (yZ (Row.mk (List.take ((9 + Int.toNat (↑g.3 : Int)) * 1) (Value.int IntKind.u8 (IntKind.wrap IntKind.u8 (ishr IntKind.i64 (Int.ofNat (Int.toNat (↑g.3 :
  Int))) (16 : Int))) :: Value.int IntKind.u8 (IntKind.wrap IntKind.u8 (ishr IntKind.i64 (Int.ofNat (Int.toNat (↑g.3 : Int))) (8 : Int))) :: Value.int IntKind.u8
  (IntKind.wrap IntKind.u8 (Int.ofNat (Int.toNat (↑g.3 : Int)))) :: Value.int IntKind.u8 (0 : Int) :: Value.int IntKind.u8 (0 : Int) :: Value.int IntKind.u8 (0 : Int) ::
  Value.int IntKind.u8 (0 : Int) :: Value.int IntKind.u8 (0 : Int) :: Value.int IntKind.u8 (1 : Int) :: ([] ++ List.take (Int.toNat (↑g.3 : Int) * 1) (List.drop 0
  (List.replicate (Int.toNat (↑g.3 : Int)) (Value.int IntKind.u8 (0 : Int))))))) true (Ob.cells true))) 0 (some 0))) (9 + Int.toNat (↑g.3 : Int) - 9) 1] 3)))) true (Ob.cells
  true)) (cellN [Value.int IntKind.i64 (0 : Int), Value.int IntKind.i64 (0 : Int), Value.int IntKind.i64 (1 : Int), Value.slice (some (Addr.mk (yZ (Row.mk (List.take ((9 +
  Int.toNat (↑g.3 : Int)) * 1) (Value.int IntKind.u8 (IntKind.wrap IntKind.u8 (ishr IntKind.i64 (Int.ofNat (Int.toNat (↑g.3 : Int))) (16 : Int))) :: Value.int IntKind.u8
  (IntKind.wrap IntKind.u8 (ishr IntKind.i64 (Int.ofNat (Int.toNat (↑g.3 : Int))) (8 : Int))) :: Value.int IntKind.u8 (IntKind.wrap IntKind.u8 (Int.ofNat (Int.toNat (↑g.3 :
  Int)))) :: Value.int IntKind.u8 (0 : Int) :: Value.int IntKind.u8 (0 : Int) :: Value.int IntKind.u8 (0 : Int) :: Value.int IntKind.u8 (0 : Int) :: Value.int IntKind.u8 (0
  : Int) :: Value.int IntKind.u8 (1 : Int) :: ([] ++ List.take (Int.toNat (↑g.3 : Int) * 1) (List.drop 0 (List.replicate (Int.toNat (↑g.3 : Int)) (Value.int IntKind.u8 (0 :
  Int))))))) true (Ob.cells true))) 0 (some 0))) (9 + Int.toNat (↑g.3 : Int) - 9) 1] 3) /\ rightB (cellI [Value.int IntKind.i64 (0 : Int), Value.int IntKind.i64 (0 : Int),
  Value.int IntKind.i64 (1 : Int), Value.slice (some (Addr.mk (yZ (Row.mk (List.take ((9 + Int.toNat (↑g.3 : Int)) * 1) (Value.int IntKind.u8 (IntKind.wrap IntKind.u8 (ishr
  IntKind.i64 (Int.ofNat (Int.toNat (↑g.3 : Int))) (16 : Int))) :: Value.int IntKind.u8 (IntKind.wrap IntKind.u8 (ishr IntKind.i64 (Int.ofNat (Int.toNat (↑g.3 : Int))) (8 :
  Int))) :: Value.int IntKind.u8 (IntKind.wrap IntKind.u8 (Int.ofNat (Int.toNat (↑g.3 : Int)))) :: Value.int IntKind.u8 (0 : Int) :: Value.int IntKind.u8 (0 : Int) ::
  Value.int IntKind.u8 (0 : Int) :: Value.int IntKind.u8 (0 : Int) :: Value.int IntKind.u8 (0 : Int) :: Value.int IntKind.u8 (1 : Int) :: ([] ++ List.take (Int.toNat (↑g.3 :
  Int) * 1) (List.drop 0 (List.replicate (Int.toNat (↑g.3 : Int)) (Value.int IntKind.u8 (0 : Int))))))) true (Ob.cells true))) 0 (some 0))) (9 + Int.toNat (↑g.3 : Int) - 9)
  1] 0) (cellI [Value.int IntKind.i64 (0 : Int), Value.int IntKind.i64 (0 : Int), Value.int IntKind.i64 (1 : Int), Value.slice (some (Addr.mk (yZ (Row.mk (List.take ((9 +
  Int.toNat (↑g.3 : Int)) * 1) (Value.int IntKind.u8 (IntKind.wrap IntKind.u8 (ishr IntKind.i64 (Int.ofNat (Int.toNat (↑g.3 : Int))) (16 : Int))) :: Value.int IntKind.u8
  (IntKind.wrap IntKind.u8 (ishr IntKind.i64 (Int.ofNat (Int.toNat (↑g.3 : Int))) (8 : Int))) :: Value.int IntKind.u8 (IntKind.wrap IntKind.u8 (Int.ofNat (Int.toNat (↑g.3 :
  Int)))) :: Value.int IntKind.u8 (0 : Int) :: Value.int IntKind.u8 (0 : Int) :: Value.int IntKind.u8 (0 : Int) :: Value.int IntKind.u8 (0 : Int) :: Value.int IntKind.u8 (0
  : Int) :: Value.int IntKind.u8 (1 : Int) :: ([] ++ List.take (Int.toNat (↑g.3 : Int) * 1) (List.drop 0 (List.replicate (Int.toNat (↑g.3 : Int)) (Value.int IntKind.u8 (0 :
  Int))))))) true (Ob.cells true))) 0 (some 0))) (9 + Int.toNat (↑g.3 : Int) - 9) 1] 1) (cellI [Value.int IntKind.i64 (0 : Int), Value.int IntKind.i64 (0 : Int), Value.int
  IntKind.i64 (1 : Int), Value.slice (some (Addr.mk (yZ (Row.mk (List.take ((9 + Int.toNat (↑g.3 : Int)) * 1) (Value.int IntKind.u8 (IntKind.wrap IntKind.u8 (ishr
  IntKind.i64 (Int.ofNat (Int.toNat (↑g.3 : Int))) (16 : Int))) :: Value.int IntKind.u8 (IntKind.wrap IntKind.u8 (ishr IntKind.i64 (Int.ofNat (Int.toNat (↑g.3 : Int))) (8 :
  Int))) :: Value.int IntKind.u8 (IntKind.wrap IntKind.u8 (Int.ofNat (Int.toNat (↑g.3 : Int)))) :: Value.int IntKind.u8 (0 : Int) :: Value.int IntKind.u8 (0 : Int) ::
  Value.int IntKind.u8 (0 : Int) :: Value.int IntKind.u8 (0 : Int) :: Value.int IntKind.u8 (0 : Int) :: Value.int IntKind.u8 (1 : Int) :: ([] ++ List.take (Int.toNat (↑g.3 :
  Int) * 1) (List.drop 0 (List.replicate (Int.toNat (↑g.3 : Int)) (Value.int IntKind.u8 (0 : Int))))))) true (Ob.cells true))) 0 (some 0))) (9 + Int.toNat (↑g.3 : Int) - 9)
  1] 2) (cellN [Value.int IntKind.i64 (0 : Int), Value.int IntKind.i64 (0 : Int), Value.int IntKind.i64 (1 : Int), Value.slice (some (Addr.mk (yZ (Row.mk (List.take ((9 +
  Int.toNat (↑g.3 : Int)) * 1) (Value.int IntKind.u8 (IntKind.wrap IntKind.u8 (ishr IntKind.i64 (Int.ofNat (Int.toNat (↑g.3 : Int))) (16 : Int))) :: Value.int IntKind.u8
  (IntKind.wrap IntKind.u8 (ishr IntKind.i64 (Int.ofNat (Int.toNat (↑g.3 : Int))) (8 : Int))) :: Value.int IntKind.u8 (IntKind.wrap IntKind.u8 (Int.ofNat (Int.toNat (↑g.3 :
  Int)))) :: Value.int IntKind.u8 (0 : Int) :: Value.int IntKind.u8 (0 : Int) :: Value.int IntKind.u8 (0 : Int) :: Value.int IntKind.u8 (0 : Int) :: Value.int IntKind.u8 (0
  : Int) :: Value.int IntKind.u8 (1 : Int) :: ([] ++ List.take (Int.toNat (↑g.3 : Int) * 1) (List.drop 0 (List.replicate (Int.toNat (↑g.3 : Int)) (Value.int IntKind.u8 (0 :
  Int))))))) true (Ob.cells true))) 0 (some 0))) (9 + Int.toNat (↑g.3 : Int) - 9) 1] 3) = true))))) /\ (br (decide ((0 : Int) <= (↑0 : Int) /\ (0 : Int) <= IntKind.wrap
  IntKind.i64 (Int.ofNat (cellN [Value.int IntKind.i64 (0 : Int), Value.int IntKind.i64 (0 : Int), Value.int IntKind.i64 (1 : Int), Value.slice (some (Addr.mk (yZ (Row.mk
  (List.take ((9 + Int.toNat (↑g.3 : Int)) * 1) (Value.int IntKind.u8 (IntKind.wrap IntKind.u8 (ishr IntKind.i64 (Int.ofNat (Int.toNat (↑g.3 : Int))) (16 : Int))) ::
  Value.int IntKind.u8 (IntKind.wrap IntKind.u8 (ishr IntKind.i64 (Int.ofNat (Int.toNat (↑g.3 : Int))) (8 : Int))) :: Value.int IntKind.u8 (IntKind.wrap IntKind.u8
  (Int.ofNat (Int.toNat (↑g.3 : Int)))) :: Value.int IntKind.u8 (0 : Int) :: Value.int IntKind.u8 (0 : Int) :: Value.int IntKind.u8 (0 : Int) :: Value.int IntKind.u8 (0 :
  Int) :: Value.int IntKind.u8 (0 : Int) :: Value.int IntKind.u8 (1 : Int) :: ([] ++ List.take (Int.toNat (↑g.3 : Int) * 1) (List.drop 0 (List.replicate (Int.toNat (↑g.3 :
  Int)) (Value.int IntKind.u8 (0 : Int))))))) true (Ob.cells true))) 0 (some 0))) (9 + Int.toNat (↑g.3 : Int) - 9) 1] 3) - (0 : Int)) /\ IntKind.wrap IntKind.i64 (Int.ofNat
  (cellN [Value.int IntKind.i64 (0 : Int), Value.int IntKind.i64 (0 : Int), Value.int IntKind.i64 (1 : Int), Value.slice (some (Addr.mk (yZ (Row.mk (List.take ((9 +
  Int.toNat (↑g.3 : Int)) * 1) (Value.int IntKind.u8 (IntKind.wrap IntKind.u8 (ishr IntKind.i64 (Int.ofNat (Int.toNat (↑g.3 : Int))) (16 : Int))) :: Value.int IntKind.u8
  (IntKind.wrap IntKind.u8 (ishr IntKind.i64 (Int.ofNat (Int.toNat (↑g.3 : Int))) (8 : Int))) :: Value.int IntKind.u8 (IntKind.wrap IntKind.u8 (Int.ofNat (Int.toNat (↑g.3 :
  Int)))) :: Value.int IntKind.u8 (0 : Int) :: Value.int IntKind.u8 (0 : Int) :: Value.int IntKind.u8 (0 : Int) :: Value.int IntKind.u8 (0 : Int) :: Value.int IntKind.u8 (0
  : Int) :: Value.int IntKind.u8 (1 : Int) :: ([] ++ List.take (Int.toNat (↑g.3 : Int) * 1) (List.drop 0 (List.replicate (Int.toNat (↑g.3 : Int)) (Value.int IntKind.u8 (0 :
  Int))))))) true (Ob.cells true))) 0 (some 0))) (9 + Int.toNat (↑g.3 : Int) - 9) 1] 3) - (0 : Int)) <= (↑(cellN [Value.int IntKind.i64 (0 : Int), Value.int IntKind.i64 (0 :
  Int), Value.int IntKind.i64 (1 : Int), Value.slice (some (Addr.mk (yZ (Row.mk (List.take ((9 + Int.toNat (↑g.3 : Int)) * 1) (Value.int IntKind.u8 (IntKind.wrap IntKind.u8
  (ishr IntKind.i64 (Int.ofNat (Int.toNat (↑g.3 : Int))) (16 : Int))) :: Value.int IntKind.u8 (IntKind.wrap IntKind.u8 (ishr IntKind.i64 (Int.ofNat (Int.toNat (↑g.3 : Int)))
  (8 : Int))) :: Value.int IntKind.u8 (IntKind.wrap IntKind.u8 (Int.ofNat (Int.toNat (↑g.3 : Int)))) :: Value.int IntKind.u8 (0 : Int) :: Value.int IntKind.u8 (0 : Int) ::
  Value.int IntKind.u8 (0 : Int) :: Value.int IntKind.u8 (0 : Int) :: Value.int IntKind.u8 (0 : Int) :: Value.int IntKind.u8 (1 : Int) :: ([] ++ List.take (Int.toNat (↑g.3 :
  Int) * 1) (List.drop 0 (List.replicate (Int.toNat (↑g.3 : Int)) (Value.int IntKind.u8 (0 : Int))))))) true (Ob.cells true))) 0 (some 0))) (9 + Int.toNat (↑g.3 : Int) - 9)
  1] 3) : Int))) (br (decide (0 + (Int.toNat (IntKind.wrap IntKind.i64 (Int.ofNat (cellN [Value.int IntKind.i64 (0 : Int), Value.int IntKind.i64 (0 : Int), Value.int
  IntKind.i64 (1 : Int), Value.slice (some (Addr.mk (yZ (Row.mk (List.take ((9 + Int.toNat (↑g.3 : Int)) * 1) (Value.int IntKind.u8 (IntKind.wrap IntKind.u8 (ishr
  IntKind.i64 (Int.ofNat (Int.toNat (↑g.3 : Int))) (16 : Int))) :: Value.int IntKind.u8 (IntKind.wrap IntKind.u8 (ishr IntKind.i64 (Int.ofNat (Int.toNat (↑g.3 : Int))) (8 :
  Int))) :: Value.int IntKind.u8 (IntKind.wrap IntKind.u8 (Int.ofNat (Int.toNat (↑g.3 : Int)))) :: Value.int IntKind.u8 (0 : Int) :: Value.int IntKind.u8 (0 : Int) ::
  Value.int IntKind.u8 (0 : Int) :: Value.int IntKind.u8 (0 : Int) :: Value.int IntKind.u8 (0 : Int) :: Value.int IntKind.u8 (1 : Int) :: ([] ++ List.take (Int.toNat (↑g.3 :
  Int) * 1) (List.drop 0 (List.replicate (Int.toNat (↑g.3 : Int)) (Value.int IntKind.u8 (0 : Int))))))) true (Ob.cells true))) 0 (some 0))) (9 + Int.toNat (↑g.3 : Int) - 9)
  1] 3) - (0 : Int))) - 0) * 1 <= List.length (gCells (cellZ [Value.int IntKind.i64 (0 : Int), Value.int IntKind.i64 (0 : Int), Value.int IntKind.i64 (1 : Int), Value.slice
  (some (Addr.mk (yZ (Row.mk (List.take ((9 + Int.toNat (↑g.3 : Int)) * 1) (Value.int IntKind.u8 (IntKind.wrap IntKind.u8 (ishr IntKind.i64 (Int.ofNat (Int.toNat (↑g.3 :
  Int))) (16 : Int))) :: Value.int IntKind.u8 (IntKind.wrap IntKind.u8 (ishr IntKind.i64 (Int.ofNat (Int.toNat (↑g.3 : Int))) (8 : Int))) :: Value.int IntKind.u8
  (IntKind.wrap IntKind.u8 (Int.ofNat (Int.toNat (↑g.3 : Int)))) :: Value.int IntKind.u8 (0 : Int) :: Value.int IntKind.u8 (0 : Int) :: Value.int IntKind.u8 (0 : Int) ::
  Value.int IntKind.u8 (0 : Int) :: Value.int IntKind.u8 (0 : Int) :: Value.int IntKind.u8 (1 : Int) :: ([] ++ List.take (Int.toNat (↑g.3 : Int) * 1) (List.drop 0
  (List.replicate (Int.toNat (↑g.3 : Int)) (Value.int IntKind.u8 (0 : Int))))))) true (Ob.cells true))) 0 (some 0))) (9 + Int.toNat (↑g.3 : Int) - 9) 1] 3)))) (br (allOne
  (List.take ((Int.toNat (IntKind.wrap IntKind.i64 (Int.ofNat (cellN [Value.int IntKind.i64 (0 : Int), Value.int IntKind.i64 (0 : Int), Value.int IntKind.i64 (1 : Int),
  Value.slice (some (Addr.mk (yZ (Row.mk (List.take ((9 + Int.toNat (↑g.3 : Int)) * 1) (Value.int IntKind.u8 (IntKind.wrap IntKind.u8 (ishr IntKind.i64 (Int.ofNat (Int.toNat
  (↑g.3 : Int))) (16 : Int))) :: Value.int IntKind.u8 (IntKind.wrap IntKind.u8 (ishr IntKind.i64 (Int.ofNat (Int.toNat (↑g.3 : Int))) (8 : Int))) :: Value.int IntKind.u8
  (IntKind.wrap IntKind.u8 (Int.ofNat (Int.toNat (↑g.3 : Int)))) :: Value.int IntKind.u8 (0 : Int) :: Value.int IntKind.u8 (0 : Int) :: Value.int IntKind.u8 (0 : Int) ::
  Value.int IntKind.u8 (0 : Int) :: Value.int IntKind.u8 (0 : Int) :: Value.int IntKind.u8 (1 : Int) :: ([] ++ List.take (Int.toNat (↑g.3 : Int) * 1) (List.drop 0
  (List.replicate (Int.toNat (↑g.3 : Int)) (Value.int IntKind.u8 (0 : Int))))))) true (Ob.cells true))) 0 (some 0))) (9 + Int.toNat (↑g.3 : Int) - 9) 1] 3) - (0 : Int))) -
  0) * 1) (List.drop 0 (gCells (cellZ [Value.int IntKind.i64 (0 : Int), Value.int IntKind.i64 (0 : Int), Value.int IntKind.i64 (1 : Int), Value.slice (some (Addr.mk (yZ
  (Row.mk (List.take ((9 + Int.toNat (↑g.3 : Int)) * 1) (Value.int IntKind.u8 (IntKind.wrap IntKind.u8 (ishr IntKind.i64 (Int.ofNat (Int.toNat (↑g.3 : Int))) (16 : Int))) ::
  Value.int IntKind.u8 (IntKind.wrap IntKind.u8 (ishr IntKind.i64 (Int.ofNat (Int.toNat (↑g.3 : Int))) (8 : Int))) :: Value.int IntKind.u8 (IntKind.wrap IntKind.u8
  (Int.ofNat (Int.toNat (↑g.3 : Int)))) :: Value.int IntKind.u8 (0 : Int) :: Value.int IntKind.u8 (0 : Int) :: Value.int IntKind.u8 (0 : Int) :: Value.int IntKind.u8 (0 :
  Int) :: Value.int IntKind.u8 (0 : Int) :: Value.int IntKind.u8 (1 : Int) :: ([] ++ List.take (Int.toNat (↑g.3 : Int) * 1) (List.drop 0 (List.replicate (Int.toNat (↑g.3 :
  Int)) (Value.int IntKind.u8 (0 : Int))))))) true (Ob.cells true))) 0 (some 0))) (9 + Int.toNat (↑g.3 : Int) - 9) 1] 3))))) (br (decide (Int.toNat (IntKind.wrap IntKind.i64
  (Int.ofNat (cellN [Value.int IntKind.i64 (0 : Int), Value.int IntKind.i64 (0 : Int), Value.int IntKind.i64 (1 : Int), Value.slice (some (Addr.mk (yZ (Row.mk (List.take ((9
  + Int.toNat (↑g.3 : Int)) * 1) (Value.int IntKind.u8 (IntKind.wrap IntKind.u8 (ishr IntKind.i64 (Int.ofNat (Int.toNat (↑g.3 : Int))) (16 : Int))) :: Value.int IntKind.u8
  (IntKind.wrap IntKind.u8 (ishr IntKind.i64 (Int.ofNat (Int.toNat (↑g.3 : Int))) (8 : Int))) :: Value.int IntKind.u8 (IntKind.wrap IntKind.u8 (Int.ofNat (Int.toNat (↑g.3 :
  Int)))) :: Value.int IntKind.u8 (0 : Int) :: Value.int IntKind.u8 (0 : Int) :: Value.int IntKind.u8 (0 : Int) :: Value.int IntKind.u8 (0 : Int) :: Value.int IntKind.u8 (0
  : Int) :: Value.int IntKind.u8 (1 : Int) :: ([] ++ List.take (Int.toNat (↑g.3 : Int) * 1) (List.drop 0 (List.replicate (Int.toNat (↑g.3 : Int)) (Value.int IntKind.u8 (0 :
  Int))))))) true (Ob.cells true))) 0 (some 0))) (9 + Int.toNat (↑g.3 : Int) - 9) 1] 3) - (0 : Int))) - 0 <= 16777216)) (br (decide (Int.ofNat (cellN [Value.int IntKind.i64
  (0 : Int), Value.int IntKind.i64 (0 : Int), Value.int IntKind.i64 (1 : Int), Value.slice (some (Addr.mk (yZ (Row.mk (List.take ((9 + Int.toNat (↑g.3 : Int)) * 1)
  (Value.int IntKind.u8 (IntKind.wrap IntKind.u8 (ishr IntKind.i64 (Int.ofNat (Int.toNat (↑g.3 : Int))) (16 : Int))) :: Value.int IntKind.u8 (IntKind.wrap IntKind.u8 (ishr
  IntKind.i64 (Int.ofNat (Int.toNat (↑g.3 : Int))) (8 : Int))) :: Value.int IntKind.u8 (IntKind.wrap IntKind.u8 (Int.ofNat (Int.toNat (↑g.3 : Int)))) :: Value.int IntKind.u8
  (0 : Int) :: Value.int IntKind.u8 (0 : Int) :: Value.int IntKind.u8 (0 : Int) :: Value.int IntKind.u8 (0 : Int) :: Value.int IntKind.u8 (0 : Int) :: Value.int IntKind.u8
  (1 : Int) :: ([] ++ List.take (Int.toNat (↑g.3 : Int) * 1) (List.drop 0 (List.replicate (Int.toNat (↑g.3 : Int)) (Value.int IntKind.u8 (0 : Int))))))) true (Ob.cells
  true))) 0 (some 0))) (9 + Int.toNat (↑g.3 : Int) - 9) 1] 3) > g.4)) (br (veq 20 (Value.agg (Array.mk [Value.int IntKind.i64 g.4])) (Value.agg (Array.mk [Value.int
  IntKind.i64 g.4]))) (br (veq 20 (Value.int IntKind.i64 (Int.ofNat (cellN [Value.int IntKind.i64 (0 : Int), Value.int IntKind.i64 (0 : Int), Value.int IntKind.i64 (1 :
  Int), Value.slice (some (Addr.mk (yZ (Row.mk (List.take ((9 + Int.toNat (↑g.3 : Int)) * 1) (Value.int IntKind.u8 (IntKind.wrap IntKind.u8 (ishr IntKind.i64 (Int.ofNat
  (Int.toNat (↑g.3 : Int))) (16 : Int))) :: Value.int IntKind.u8 (IntKind.wrap IntKind.u8 (ishr IntKind.i64 (Int.ofNat (Int.toNat (↑g.3 : Int))) (8 : Int))) :: Value.int
  IntKind.u8 (IntKind.wrap IntKind.u8 (Int.ofNat (Int.toNat (↑g.3 : Int)))) :: Value.int IntKind.u8 (0 : Int) :: Value.int IntKind.u8 (0 : Int) :: Value.int IntKind.u8 (0 :
  Int) :: Value.int IntKind.u8 (0 : Int) :: Value.int IntKind.u8 (0 : Int) :: Value.int IntKind.u8 (1 : Int) :: ([] ++ List.take (Int.toNat (↑g.3 : Int) * 1) (List.drop 0
  (List.replicate (Int.toNat (↑g.3 : Int)) (Value.int IntKind.u8 (0 : Int))))))) true (Ob.cells true))) 0 (some 0))) (9 + Int.toNat (↑g.3 : Int) - 9) 1] 3))) (Value.int
  IntKind.i64 (Int.ofNat (cellN [Value.int IntKind.i64 (0 : Int), Value.int IntKind.i64 (0 : Int), Value.int IntKind.i64 (1 : Int), Value.slice (some (Addr.mk (yZ (Row.mk
  (List.take ((9 + Int.toNat (↑g.3 : Int)) * 1) (Value.int IntKind.u8 (IntKind.wrap IntKind.u8 (ishr IntKind.i64 (Int.ofNat (Int.toNat (↑g.3 : Int))) (16 : Int))) ::
  Value.int IntKind.u8 (IntKind.wrap IntKind.u8 (ishr IntKind.i64 (Int.ofNat (Int.toNat (↑g.3 : Int))) (8 : Int))) :: Value.int IntKind.u8 (IntKind.wrap IntKind.u8
  (Int.ofNat (Int.toNat (↑g.3 : Int)))) :: Value.int IntKind.u8 (0 : Int) :: Value.int IntKind.u8 (0 : Int) :: Value.int IntKind.u8 (0 : Int) :: Value.int IntKind.u8 (0 :
  Int) :: Value.int IntKind.u8 (0 : Int) :: Value.int IntKind.u8 (1 : Int) :: ([] ++ List.take (Int.toNat (↑g.3 : Int) * 1) (List.drop 0 (List.replicate (Int.toNat (↑g.3 :
  Int)) (Value.int IntKind.u8 (0 : Int))))))) true (Ob.cells true))) 0 (some 0))) (9 + Int.toNat (↑g.3 : Int) - 9) 1] 3)))) False False) False) (br (veq 20 (Value.agg
  (Array.mk [Value.int IntKind.i64 g.4])) (Value.agg (Array.mk [Value.int IntKind.i64 g.4]))) (br (veq 20 (Value.int IntKind.i64 (Int.ofNat (cellN [Value.int IntKind.i64 (0
  : Int), Value.int IntKind.i64 (0 : Int), Value.int IntKind.i64 (1 : Int), Value.slice (some (Addr.mk (yZ (Row.mk (List.take ((9 + Int.toNat (↑g.3 : Int)) * 1) (Value.int
  IntKind.u8 (IntKind.wrap IntKind.u8 (ishr IntKind.i64 (Int.ofNat (Int.toNat (↑g.3 : Int))) (16 : Int))) :: Value.int IntKind.u8 (IntKind.wrap IntKind.u8 (ishr IntKind.i64
  (Int.ofNat (Int.toNat (↑g.3 : Int))) (8 : Int))) :: Value.int IntKind.u8 (IntKind.wrap IntKind.u8 (Int.ofNat (Int.toNat (↑g.3 : Int)))) :: Value.int IntKind.u8 (0 : Int)
  :: Value.int IntKind.u8 (0 : Int) :: Value.int IntKind.u8 (0 : Int) :: Value.int IntKind.u8 (0 : Int) :: Value.int IntKind.u8 (0 : Int) :: Value.int IntKind.u8 (1 : Int)
  :: ([] ++ List.take (Int.toNat (↑g.3 : Int) * 1) (List.drop 0 (List.replicate (Int.toNat (↑g.3 : Int)) (Value.int IntKind.u8 (0 : Int))))))) true (Ob.cells true))) 0 (some
  0))) (9 + Int.toNat (↑g.3 : Int) - 9) 1] 3))) (Value.int IntKind.i64 (Int.ofNat (cellN [Value.int IntKind.i64 (0 : Int), Value.int IntKind.i64 (0 : Int), Value.int
  IntKind.i64 (1 : Int), Value.slice (some (Addr.mk (yZ (Row.mk (List.take ((9 + Int.toNat (↑g.3 : Int)) * 1) (Value.int IntKind.u8 (IntKind.wrap IntKind.u8 (ishr
  IntKind.i64 (Int.ofNat (Int.toNat (↑g.3 : Int))) (16 : Int))) :: Value.int IntKind.u8 (IntKind.wrap IntKind.u8 (ishr IntKind.i64 (Int.ofNat (Int.toNat (↑g.3 : Int))) (8 :
  Int))) :: Value.int IntKind.u8 (IntKind.wrap IntKind.u8 (Int.ofNat (Int.toNat (↑g.3 : Int)))) :: Value.int IntKind.u8 (0 : Int) :: Value.int IntKind.u8 (0 : Int) ::
  Value.int IntKind.u8 (0 : Int) :: Value.int IntKind.u8 (0 : Int) :: Value.int IntKind.u8 (0 : Int) :: Value.int IntKind.u8 (1 : Int) :: ([] ++ List.take (Int.toNat (↑g.3 :
  Int) * 1) (List.drop 0 (List.replicate (Int.toNat (↑g.3 : Int)) (Value.int IntKind.u8 (0 : Int))))))) true (Ob.cells true))) 0 (some 0))) (9 + Int.toNat (↑g.3 : Int) - 9)
  1] 3)))) (br (decide (Int.ofNat (cellN [Value.int IntKind.i64 (0 : Int), Value.int IntKind.i64 (0 : Int), Value.int IntKind.i64 (1 : Int), Value.slice (some (Addr.mk (yZ
  (Row.mk (List.take ((9 + Int.toNat (↑g.3 : Int)) * 1) (Value.int IntKind.u8 (IntKind.wrap IntKind.u8 (ishr IntKind.i64 (Int.ofNat (Int.toNat (↑g.3 : Int))) (16 : Int))) ::
  Value.int IntKind.u8 (IntKind.wrap IntKind.u8 (ishr IntKind.i64 (Int.ofNat (Int.toNat (↑g.3 : Int))) (8 : Int))) :: Value.int IntKind.u8 (IntKind.wrap IntKind.u8
  (Int.ofNat (Int.toNat (↑g.3 : Int)))) :: Value.int IntKind.u8 (0 : Int) :: Value.int IntKind.u8 (0 : Int) :: Value.int IntKind.u8 (0 : Int) :: Value.int IntKind.u8 (0 :
  Int) :: Value.int IntKind.u8 (0 : Int) :: Value.int IntKind.u8 (1 : Int) :: ([] ++ List.take (Int.toNat (↑g.3 : Int) * 1) (List.drop 0 (List.replicate (Int.toNat (↑g.3 :
  Int)) (Value.int IntKind.u8 (0 : Int))))))) true (Ob.cells true))) 0 (some 0))) (9 + Int.toNat (↑g.3 : Int) - 9) 1] 3) > g.4)) False (br (decide (Int.ofNat (cellN
  [Value.int IntKind.i64 (0 : Int), Value.int IntKind.i64 (0 : Int), Value.int IntKind.i64 (1 : Int), Value.slice (some (Addr.mk (yZ (Row.mk (List.take ((9 + Int.toNat (↑g.3
  : Int)) * 1) (Value.int IntKind.u8 (IntKind.wrap IntKind.u8 (ishr IntKind.i64 (Int.ofNat (Int.toNat (↑g.3 : Int))) (16 : Int))) :: Value.int IntKind.u8 (IntKind.wrap
  IntKind.u8 (ishr IntKind.i64 (Int.ofNat (Int.toNat (↑g.3 : Int))) (8 : Int))) :: Value.int IntKind.u8 (IntKind.wrap IntKind.u8 (Int.ofNat (Int.toNat (↑g.3 : Int)))) ::
  Value.int IntKind.u8 (0 : Int) :: Value.int IntKind.u8 (0 : Int) :: Value.int IntKind.u8 (0 : Int) :: Value.int IntKind.u8 (0 : Int) :: Value.int IntKind.u8 (0 : Int) ::
  Value.int IntKind.u8 (1 : Int) :: ([] ++ List.take (Int.toNat (↑g.3 : Int) * 1) (List.drop 0 (List.replicate (Int.toNat (↑g.3 : Int)) (Value.int IntKind.u8 (0 : Int)))))))
  true (Ob.cells true))) 0 (some 0))) (9 + Int.toNat (↑g.3 : Int) - 9) 1] 3) > g.4)) (br (veq 20 (Value.agg (Array.mk [Value.int IntKind.i64 g.4])) (Value.agg (Array.mk
  [Value.int IntKind.i64 g.4]))) (br (veq 20 (Value.int IntKind.i64 (Int.ofNat (cellN [Value.int IntKind.i64 (0 : Int), Value.int IntKind.i64 (0 : Int), Value.int
  IntKind.i64 (1 : Int), Value.slice (some (Addr.mk (yZ (Row.mk (List.take ((9 + Int.toNat (↑g.3 : Int)) * 1) (Value.int IntKind.u8 (IntKind.wrap IntKind.u8 (ishr
  IntKind.i64 (Int.ofNat (Int.toNat (↑g.3 : Int))) (16 : Int))) :: Value.int IntKind.u8 (IntKind.wrap IntKind.u8 (ishr IntKind.i64 (Int.ofNat (Int.toNat (↑g.3 : Int))) (8 :
  Int))) :: Value.int IntKind.u8 (IntKind.wrap IntKind.u8 (Int.ofNat (Int.toNat (↑g.3 : Int)))) :: Value.int IntKind.u8 (0 : Int) :: Value.int IntKind.u8 (0 : Int) ::
  Value.int IntKind.u8 (0 : Int) :: Value.int IntKind.u8 (0 : Int) :: Value.int IntKind.u8 (0 : Int) :: Value.int IntKind.u8 (1 : Int) :: ([] ++ List.take (Int.toNat (↑g.3 :
  Int) * 1) (List.drop 0 (List.replicate (Int.toNat (↑g.3 : Int)) (Value.int IntKind.u8 (0 : Int))))))) true (Ob.cells true))) 0 (some 0))) (9 + Int.toNat (↑g.3 : Int) - 9)
  1] 3))) (Value.int IntKind.i64 (Int.ofNat (cellN [Value.int IntKind.i64 (0 : Int), Value.int IntKind.i64 (0 : Int), Value.int IntKind.i64 (1 : Int), Value.slice (some
  (Addr.mk (yZ (Row.mk (List.take ((9 + Int.toNat (↑g.3 : Int)) * 1) (Value.int IntKind.u8 (IntKind.wrap IntKind.u8 (ishr IntKind.i64 (Int.ofNat (Int.toNat (↑g.3 : Int)))
  (16 : Int))) :: Value.int IntKind.u8 (IntKind.wrap IntKind.u8 (ishr IntKind.i64 (Int.ofNat (Int.toNat (↑g.3 : Int))) (8 : Int))) :: Value.int IntKind.u8 (IntKind.wrap
  IntKind.u8 (Int.ofNat (Int.toNat (↑g.3 : Int)))) :: Value.int IntKind.u8 (0 : Int) :: Value.int IntKind.u8 (0 : Int) :: Value.int IntKind.u8 (0 : Int) :: Value.int
  IntKind.u8 (0 : Int) :: Value.int IntKind.u8 (0 : Int) :: Value.int IntKind.u8 (1 : Int) :: ([] ++ List.take (Int.toNat (↑g.3 : Int) * 1) (List.drop 0 (List.replicate
  (Int.toNat (↑g.3 : Int)) (Value.int IntKind.u8 (0 : Int))))))) true (Ob.cells true))) 0 (some 0))) (9 + Int.toNat (↑g.3 : Int) - 9) 1] 3)))) (br (IntKind.wrap IntKind.i64
  (Int.ofNat (cellN [Value.int IntKind.i64 (0 : Int), Value.int IntKind.i64 (0 : Int), Value.int IntKind.i64 (1 : Int), Value.slice (some (Addr.mk (yZ (Row.mk (List.take ((9
  + Int.toNat (↑g.3 : Int)) * 1) (Value.int IntKind.u8 (IntKind.wrap IntKind.u8 (ishr IntKind.i64 (Int.ofNat (Int.toNat (↑g.3 : Int))) (16 : Int))) :: Value.int IntKind.u8
  (IntKind.wrap IntKind.u8 (ishr IntKind.i64 (Int.ofNat (Int.toNat (↑g.3 : Int))) (8 : Int))) :: Value.int IntKind.u8 (IntKind.wrap IntKind.u8 (Int.ofNat (Int.toNat (↑g.3 :
  Int)))) :: Value.int IntKind.u8 (0 : Int) :: Value.int IntKind.u8 (0 : Int) :: Value.int IntKind.u8 (0 : Int) :: Value.int IntKind.u8 (0 : Int) :: Value.int IntKind.u8 (0
  : Int) :: Value.int IntKind.u8 (1 : Int) :: ([] ++ List.take (Int.toNat (↑g.3 : Int) * 1) (List.drop 0 (List.replicate (Int.toNat (↑g.3 : Int)) (Value.int IntKind.u8 (0 :
  Int))))))) true (Ob.cells true))) 0 (some 0))) (9 + Int.toNat (↑g.3 : Int) - 9) 1] 3) - Int.ofNat (Int.toNat (IntKind.wrap IntKind.i64 (Int.ofNat (cellN [Value.int
  IntKind.i64 (0 : Int), Value.int IntKind.i64 (0 : Int), Value.int IntKind.i64 (1 : Int), Value.slice (some (Addr.mk (yZ (Row.mk (List.take ((9 + Int.toNat (↑g.3 : Int)) *
  1) (Value.int IntKind.u8 (IntKind.wrap IntKind.u8 (ishr IntKind.i64 (Int.ofNat (Int.toNat (↑g.3 : Int))) (16 : Int))) :: Value.int IntKind.u8 (IntKind.wrap IntKind.u8
  (ishr IntKind.i64 (Int.ofNat (Int.toNat (↑g.3 : Int))) (8 : Int))) :: Value.int IntKind.u8 (IntKind.wrap IntKind.u8 (Int.ofNat (Int.toNat (↑g.3 : Int)))) :: Value.int
  IntKind.u8 (0 : Int) :: Value.int IntKind.u8 (0 : Int) :: Value.int IntKind.u8 (0 : Int) :: Value.int IntKind.u8 (0 : Int) :: Value.int IntKind.u8 (0 : Int) :: Value.int
  IntKind.u8 (1 : Int) :: ([] ++ List.take (Int.toNat (↑g.3 : Int) * 1) (List.drop 0 (List.replicate (Int.toNat (↑g.3 : Int)) (Value.int IntKind.u8 (0 : Int))))))) true
  (Ob.cells true))) 0 (some 0))) (9 + Int.toNat (↑g.3 : Int) - 9) 1] 3) - (0 : Int))) - 0)) == (0 : Int)) (br (decide (0 + (Int.toNat (IntKind.wrap IntKind.i64 (Int.ofNat
  (cellN [Value.int IntKind.i64 (0 : Int), Value.int IntKind.i64 (0 : Int), Value.int IntKind.i64 (1 : Int), Value.slice (some (Addr.mk (yZ (Row.mk (List.take ((9 +
  Int.toNat (↑g.3 : Int)) * 1) (Value.int IntKind.u8 (IntKind.wrap IntKind.u8 (ishr IntKind.i64 (Int.ofNat (Int.toNat (↑g.3 : Int))) (16 : Int))) :: Value.int IntKind.u8
  (IntKind.wrap IntKind.u8 (ishr IntKind.i64 (Int.ofNat (Int.toNat (↑g.3 : Int))) (8 : Int))) :: Value.int IntKind.u8 (IntKind.wrap IntKind.u8 (Int.ofNat (Int.toNat (↑g.3 :
  Int)))) :: Value.int IntKind.u8 (0 : Int) :: Value.int IntKind.u8 (0 : Int) :: Value.int IntKind.u8 (0 : Int) :: Value.int IntKind.u8 (0 : Int) :: Value.int IntKind.u8 (0
  : Int) :: Value.int IntKind.u8 (1 : Int) :: ([] ++ List.take (Int.toNat (↑g.3 : Int) * 1) (List.drop 0 (List.replicate (Int.toNat (↑g.3 : Int)) (Value.int IntKind.u8 (0 :
  Int))))))) true (Ob.cells true))) 0 (some 0))) (9 + Int.toNat (↑g.3 : Int) - 9) 1] 3) - (0 : Int))) - 0) <= List.length (List.take ((Int.toNat (IntKind.wrap IntKind.i64
  (Int.ofNat (cellN [Value.int IntKind.i64 (0 : Int), Value.int IntKind.i64 (0 : Int), Value.int IntKind.i64 (1 : Int), Value.slice (some (Addr.mk (yZ (Row.mk (List.take ((9
  + Int.toNat (↑g.3 : Int)) * 1) (Value.int IntKind.u8 (IntKind.wrap IntKind.u8 (ishr IntKind.i64 (Int.ofNat (Int.toNat (↑g.3 : Int))) (16 : Int))) :: Value.int IntKind.u8
  (IntKind.wrap IntKind.u8 (ishr IntKind.i64 (Int.ofNat (Int.toNat (↑g.3 : Int))) (8 : Int))) :: Value.int IntKind.u8 (IntKind.wrap IntKind.u8 (Int.ofNat (Int.toNat (↑g.3 :
  Int)))) :: Value.int IntKind.u8 (0 : Int) :: Value.int IntKind.u8 (0 : Int) :: Value.int IntKind.u8 (0 : Int) :: Value.int IntKind.u8 (0 : Int) :: Value.int IntKind.u8 (0
  : Int) :: Value.int IntKind.u8 (1 : Int) :: ([] ++ List.take (Int.toNat (↑g.3 : Int) * 1) (List.drop 0 (List.replicate (Int.toNat (↑g.3 : Int)) (Value.int IntKind.u8 (0 :
  Int))))))) true (Ob.cells true))) 0 (some 0))) (9 + Int.toNat (↑g.3 : Int) - 9) 1] 3) - (0 : Int))) - 0) * 1) (List.drop 0 (gCells (cellZ [Value.int IntKind.i64 (0 : Int),
  Value.int IntKind.i64 (0 : Int), Value.int IntKind.i64 (1 : Int), Value.slice (some (Addr.mk (yZ (Row.mk (List.take ((9 + Int.toNat (↑g.3 : Int)) * 1) (Value.int
  IntKind.u8 (IntKind.wrap IntKind.u8 (ishr IntKind.i64 (Int.ofNat (Int.toNat (↑g.3 : Int))) (16 : Int))) :: Value.int IntKind.u8 (IntKind.wrap IntKind.u8 (ishr IntKind.i64
  (Int.ofNat (Int.toNat (↑g.3 : Int))) (8 : Int))) :: Value.int IntKind.u8 (IntKind.wrap IntKind.u8 (Int.ofNat (Int.toNat (↑g.3 : Int)))) :: Value.int IntKind.u8 (0 : Int)
  :: Value.int IntKind.u8 (0 : Int) :: Value.int IntKind.u8 (0 : Int) :: Value.int IntKind.u8 (0 : Int) :: Value.int IntKind.u8 (0 : Int) :: Value.int IntKind.u8 (1 : Int)
  :: ([] ++ List.take (Int.toNat (↑g.3 : Int) * 1) (List.drop 0 (List.replicate (Int.toNat (↑g.3 : Int)) (Value.int IntKind.u8 (0 : Int))))))) true (Ob.cells true))) 0 (some
  0))) (9 + Int.toNat (↑g.3 : Int) - 9) 1] 3)))))) ((AllB (List.take (Int.toNat (IntKind.wrap IntKind.i64 (Int.ofNat (cellN [Value.int IntKind.i64 (0 : Int), Value.int
  IntKind.i64 (0 : Int), Value.int IntKind.i64 (1 : Int), Value.slice (some (Addr.mk (yZ (Row.mk (List.take ((9 + Int.toNat (↑g.3 : Int)) * 1) (Value.int IntKind.u8
  (IntKind.wrap IntKind.u8 (ishr IntKind.i64 (Int.ofNat (Int.toNat (↑g.3 : Int))) (16 : Int))) :: Value.int IntKind.u8 (IntKind.wrap IntKind.u8 (ishr IntKind.i64 (Int.ofNat
  (Int.toNat (↑g.3 : Int))) (8 : Int))) :: Value.int IntKind.u8 (IntKind.wrap IntKind.u8 (Int.ofNat (Int.toNat (↑g.3 : Int)))) :: Value.int IntKind.u8 (0 : Int) :: Value.int
  IntKind.u8 (0 : Int) :: Value.int IntKind.u8 (0 : Int) :: Value.int IntKind.u8 (0 : Int) :: Value.int IntKind.u8 (0 : Int) :: Value.int IntKind.u8 (1 : Int) :: ([] ++
  List.take (Int.toNat (↑g.3 : Int) * 1) (List.drop 0 (List.replicate (Int.toNat (↑g.3 : Int)) (Value.int IntKind.u8 (0 : Int))))))) true (Ob.cells true))) 0 (some 0))) (9 +
  Int.toNat (↑g.3 : Int) - 9) 1] 3) - (0 : Int))) - 0) (List.drop 0 (List.take ((Int.toNat (IntKind.wrap IntKind.i64 (Int.ofNat (cellN [Value.int IntKind.i64 (0 : Int),
  Value.int IntKind.i64 (0 : Int), Value.int IntKind.i64 (1 : Int), Value.slice (some (Addr.mk (yZ (Row.mk (List.take ((9 + Int.toNat (↑g.3 : Int)) * 1) (Value.int
  IntKind.u8 (IntKind.wrap IntKind.u8 (ishr IntKind.i64 (Int.ofNat (Int.toNat (↑g.3 : Int))) (16 : Int))) :: Value.int IntKind.u8 (IntKind.wrap IntKind.u8 (ishr IntKind.i64
  (Int.ofNat (Int.toNat (↑g.3 : Int))) (8 : Int))) :: Value.int IntKind.u8 (IntKind.wrap IntKind.u8 (Int.ofNat (Int.toNat (↑g.3 : Int)))) :: Value.int IntKind.u8 (0 : Int)
  :: Value.int IntKind.u8 (0 : Int) :: Value.int IntKind.u8 (0 : Int) :: Value.int IntKind.u8 (0 : Int) :: Value.int IntKind.u8 (0 : Int) :: Value.int IntKind.u8 (1 : Int)
  :: ([] ++ List.take (Int.toNat (↑g.3 : Int) * 1) (List.drop 0 (List.replicate (Int.toNat (↑g.3 : Int)) (Value.int IntKind.u8 (0 : Int))))))) true (Ob.cells true))) 0 (some
  0))) (9 + Int.toNat (↑g.3 : Int) - 9) 1] 3) - (0 : Int))) - 0) * 1) (List.drop 0 (gCells (cellZ [Value.int IntKind.i64 (0 : Int), Value.int IntKind.i64 (0 : Int),
  Value.int IntKind.i64 (1 : Int), Value.slice (some (Addr.mk (yZ (Row.mk (List.take ((9 + Int.toNat (↑g.3 : Int)) * 1) (Value.int IntKind.u8 (IntKind.wrap IntKind.u8 (ishr
  IntKind.i64 (Int.ofNat (Int.toNat (↑g.3 : Int))) (16 : Int))) :: Value.int IntKind.u8 (IntKind.wrap IntKind.u8 (ishr IntKind.i64 (Int.ofNat (Int.toNat (↑g.3 : Int))) (8 :
  Int))) :: Value.int IntKind.u8 (IntKind.wrap IntKind.u8 (Int.ofNat (Int.toNat (↑g.3 : Int)))) :: Value.int IntKind.u8 (0 : Int) :: Value.int IntKind.u8 (0 : Int) ::
  Value.int IntKind.u8 (0 : Int) :: Value.int IntKind.u8 (0 : Int) :: Value.int IntKind.u8 (0 : Int) :: Value.int IntKind.u8 (1 : Int) :: ([] ++ List.take (Int.toNat (↑g.3 :
  Int) * 1) (List.drop 0 (List.replicate (Int.toNat (↑g.3 : Int)) (Value.int IntKind.u8 (0 : Int))))))) true (Ob.cells true))) 0 (some 0))) (9 + Int.toNat (↑g.3 : Int) - 9)
  1] 3))))))) /\ (br (veq 20 (Value.agg (Array.mk [Value.int IntKind.i64 (3 : Int), Value.int IntKind.i64 (cellI [Value.int IntKind.i64 (0 : Int), Value.int IntKind.i64 (0 :
  Int), Value.int IntKind.i64 (1 : Int), Value.slice (some (Addr.mk (yZ (Row.mk (List.take ((9 + Int.toNat (↑g.3 : Int)) * 1) (Value.int IntKind.u8 (IntKind.wrap IntKind.u8
  (ishr IntKind.i64 (Int.ofNat (Int.toNat (↑g.3 : Int))) (16 : Int))) :: Value.int IntKind.u8 (IntKind.wrap IntKind.u8 (ishr IntKind.i64 (Int.ofNat (Int.toNat (↑g.3 : Int)))
  (8 : Int))) :: Value.int IntKind.u8 (IntKind.wrap IntKind.u8 (Int.ofNat (Int.toNat (↑g.3 : Int)))) :: Value.int IntKind.u8 (0 : Int) :: Value.int IntKind.u8 (0 : Int) ::
  Value.int IntKind.u8 (0 : Int) :: Value.int IntKind.u8 (0 : Int) :: Value.int IntKind.u8 (0 : Int) :: Value.int IntKind.u8 (1 : Int) :: ([] ++ List.take (Int.toNat (↑g.3 :
  Int) * 1) (List.drop 0 (List.replicate (Int.toNat (↑g.3 : Int)) (Value.int IntKind.u8 (0 : Int))))))) true (Ob.cells true))) 0 (some 0))) (9 + Int.toNat (↑g.3 : Int) - 9)
  1] 2), Value.slice none 0 0, Value.string (ByteArray.mk (Array.mk (List.map bOf (List.take (Int.toNat (IntKind.wrap IntKind.i64 (Int.ofNat (cellN [Value.int IntKind.i64 (0
  : Int), Value.int IntKind.i64 (0 : Int), Value.int IntKind.i64 (1 : Int), Value.slice (some (Addr.mk (yZ (Row.mk (List.take ((9 + Int.toNat (↑g.3 : Int)) * 1) (Value.int
  IntKind.u8 (IntKind.wrap IntKind.u8 (ishr IntKind.i64 (Int.ofNat (Int.toNat (↑g.3 : Int))) (16 : Int))) :: Value.int IntKind.u8 (IntKind.wrap IntKind.u8 (ishr IntKind.i64
  (Int.ofNat (Int.toNat (↑g.3 : Int))) (8 : Int))) :: Value.int IntKind.u8 (IntKind.wrap IntKind.u8 (Int.ofNat (Int.toNat (↑g.3 : Int)))) :: Value.int IntKind.u8 (0 : Int)
  :: Value.int IntKind.u8 (0 : Int) :: Value.int IntKind.u8 (0 : Int) :: Value.int IntKind.u8 (0 : Int) :: Value.int IntKind.u8 (0 : Int) :: Value.int IntKind.u8 (1 : Int)
  :: ([] ++ List.take (Int.toNat (↑g.3 : Int) * 1) (List.drop 0 (List.replicate (Int.toNat (↑g.3 : Int)) (Value.int IntKind.u8 (0 : Int))))))) true (Ob.cells true))) 0 (some
  0))) (9 + Int.toNat (↑g.3 : Int) - 9) 1] 3) - (0 : Int))) - 0) (List.drop 0 (List.take ((Int.toNat (IntKind.wrap IntKind.i64 (Int.ofNat (cellN [Value.int IntKind.i64 (0 :
  Int), Value.int IntKind.i64 (0 : Int), Value.int IntKind.i64 (1 : Int), Value.slice (some (Addr.mk (yZ (Row.mk (List.take ((9 + Int.toNat (↑g.3 : Int)) * 1) (Value.int
  IntKind.u8 (IntKind.wrap IntKind.u8 (ishr IntKind.i64 (Int.ofNat (Int.toNat (↑g.3 : Int))) (16 : Int))) :: Value.int IntKind.u8 (IntKind.wrap IntKind.u8 (ishr IntKind.i64
  (Int.ofNat (Int.toNat (↑g.3 : Int))) (8 : Int))) :: Value.int IntKind.u8 (IntKind.wrap IntKind.u8 (Int.ofNat (Int.toNat (↑g.3 : Int)))) :: Value.int IntKind.u8 (0 : Int)
  :: Value.int IntKind.u8 (0 : Int) :: Value.int IntKind.u8 (0 : Int) :: Value.int IntKind.u8 (0 : Int) :: Value.int IntKind.u8 (0 : Int) :: Value.int IntKind.u8 (1 : Int)
  :: ([] ++ List.take (Int.toNat (↑g.3 : Int) * 1) (List.drop 0 (List.replicate (Int.toNat (↑g.3 : Int)) (Value.int IntKind.u8 (0 : Int))))))) true (Ob.cells true))) 0 (some
  0))) (9 + Int.toNat (↑g.3 : Int) - 9) 1] 3) - (0 : Int))) - 0) * 1) (List.drop 0 (gCells (cellZ [Value.int IntKind.i64 (0 : Int), Value.int IntKind.i64 (0 : Int),
  Value.int IntKind.i64 (1 : Int), Value.slice (some (Addr.mk (yZ (Row.mk (List.take ((9 + Int.toNat (↑g.3 : Int)) * 1) (Value.int IntKind.u8 (IntKind.wrap IntKind.u8 (ishr
  IntKind.i64 (Int.ofNat (Int.toNat (↑g.3 : Int))) (16 : Int))) :: Value.int IntKind.u8 (IntKind.wrap IntKind.u8 (ishr IntKind.i64 (Int.ofNat (Int.toNat (↑g.3 : Int))) (8 :
  Int))) :: Value.int IntKind.u8 (IntKind.wrap IntKind.u8 (Int.ofNat (Int.toNat (↑g.3 : Int)))) :: Value.int IntKind.u8 (0 : Int) :: Value.int IntKind.u8 (0 : Int) ::
  Value.int IntKind.u8 (0 : Int) :: Value.int IntKind.u8 (0 : Int) :: Value.int IntKind.u8 (0 : Int) :: Value.int IntKind.u8 (1 : Int) :: ([] ++ List.take (Int.toNat (↑g.3 :
  Int) * 1) (List.drop 0 (List.replicate (Int.toNat (↑g.3 : Int)) (Value.int IntKind.u8 (0 : Int))))))) true (Ob.cells true))) 0 (some 0))) (9 + Int.toNat (↑g.3 : Int) - 9)
  1] 3))))))))), Value.bool (iand IntKind.i64 (cellI [Value.int IntKind.i64 (0 : Int), Value.int IntKind.i64 (0 : Int), Value.int IntKind.i64 (1 : Int), Value.slice (some
  (Addr.mk (yZ (Row.mk (List.take ((9 + Int.toNat (↑g.3 : Int)) * 1) (Value.int IntKind.u8 (IntKind.wrap IntKind.u8 (ishr IntKind.i64 (Int.ofNat (Int.toNat (↑g.3 : Int)))
  (16 : Int))) :: Value.int IntKind.u8 (IntKind.wrap IntKind.u8 (ishr IntKind.i64 (Int.ofNat (Int.toNat (↑g.3 : Int))) (8 : Int))) :: Value.int IntKind.u8 (IntKind.wrap
  IntKind.u8 (Int.ofNat (Int.toNat (↑g.3 : Int)))) :: Value.int IntKind.u8 (0 : Int) :: Value.int IntKind.u8 (0 : Int) :: Value.int IntKind.u8 (0 : Int) :: Value.int
  IntKind.u8 (0 : Int) :: Value.int IntKind.u8 (0 : Int) :: Value.int IntKind.u8 (1 : Int) :: ([] ++ List.take (Int.toNat (↑g.3 : Int) * 1) (List.drop 0 (List.replicate
  (Int.toNat (↑g.3 : Int)) (Value.int IntKind.u8 (0 : Int))))))) true (Ob.cells true))) 0 (some 0))) (9 + Int.toNat (↑g.3 : Int) - 9) 1] 1) (1 : Int) != (0 : Int)),
  Value.int IntKind.i64 (0 : Int)])) (Value.agg (Array.mk [Value.int IntKind.i64 (3 : Int), Value.int IntKind.i64 (cellI [Value.int IntKind.i64 (0 : Int), Value.int
  IntKind.i64 (0 : Int), Value.int IntKind.i64 (1 : Int), Value.slice (some (Addr.mk (yZ (Row.mk (List.take ((9 + Int.toNat (↑g.3 : Int)) * 1) (Value.int IntKind.u8
  (IntKind.wrap IntKind.u8 (ishr IntKind.i64 (Int.ofNat (Int.toNat (↑g.3 : Int))) (16 : Int))) :: Value.int IntKind.u8 (IntKind.wrap IntKind.u8 (ishr IntKind.i64 (Int.ofNat
  (Int.toNat (↑g.3 : Int))) (8 : Int))) :: Value.int IntKind.u8 (IntKind.wrap IntKind.u8 (Int.ofNat (Int.toNat (↑g.3 : Int)))) :: Value.int IntKind.u8 (0 : Int) :: Value.int
  IntKind.u8 (0 : Int) :: Value.int IntKind.u8 (0 : Int) :: Value.int IntKind.u8 (0 : Int) :: Value.int IntKind.u8 (0 : Int) :: Value.int IntKind.u8 (1 : Int) :: ([] ++
  List.take (Int.toNat (↑g.3 : Int) * 1) (List.drop 0 (List.replicate (Int.toNat (↑g.3 : Int)) (Value.int IntKind.u8 (0 : Int))))))) true (Ob.cells true))) 0 (some 0))) (9 +
  Int.toNat (↑g.3 : Int) - 9) 1] 2), Value.slice none 0 0, Value.string (ByteArray.mk (Array.mk (List.map bOf (List.take (Int.toNat (IntKind.wrap IntKind.i64 (Int.ofNat
  (cellN [Value.int IntKind.i64 (0 : Int), Value.int IntKind.i64 (0 : Int), Value.int IntKind.i64 (1 : Int), Value.slice (some (Addr.mk (yZ (Row.mk (List.take ((9 +
  Int.toNat (↑g.3 : Int)) * 1) (Value.int IntKind.u8 (IntKind.wrap IntKind.u8 (ishr IntKind.i64 (Int.ofNat (Int.toNat (↑g.3 : Int))) (16 : Int))) :: Value.int IntKind.u8
  (IntKind.wrap IntKind.u8 (ishr IntKind.i64 (Int.ofNat (Int.toNat (↑g.3 : Int))) (8 : Int))) :: Value.int IntKind.u8 (IntKind.wrap IntKind.u8 (Int.ofNat (Int.toNat (↑g.3 :
  Int)))) :: Value.int IntKind.u8 (0 : Int) :: Value.int IntKind.u8 (0 : Int) :: Value.int IntKind.u8 (0 : Int) :: Value.int IntKind.u8 (0 : Int) :: Value.int IntKind.u8 (0
  : Int) :: Value.int IntKind.u8 (1 : Int) :: ([] ++ List.take (Int.toNat (↑g.3 : Int) * 1) (List.drop 0 (List.replicate (Int.toNat (↑g.3 : Int)) (Value.int IntKind.u8 (0 :
  Int))))))) true (Ob.cells true))) 0 (some 0))) (9 + Int.toNat (↑g.3 : Int) - 9) 1] 3) - (0 : Int))) - 0) (List.drop 0 (List.take ((Int.toNat (IntKind.wrap IntKind.i64
  (Int.ofNat (cellN [Value.int IntKind.i64 (0 : Int), Value.int IntKind.i64 (0 : Int), Value.int IntKind.i64 (1 : Int), Value.slice (some (Addr.mk (yZ (Row.mk (List.take ((9
  + Int.toNat (↑g.3 : Int)) * 1) (Value.int IntKind.u8 (IntKind.wrap IntKind.u8 (ishr IntKind.i64 (Int.ofNat (Int.toNat (↑g.3 : Int))) (16 : Int))) :: Value.int IntKind.u8
  (IntKind.wrap IntKind.u8 (ishr IntKind.i64 (Int.ofNat (Int.toNat (↑g.3 : Int))) (8 : Int))) :: Value.int IntKind.u8 (IntKind.wrap IntKind.u8 (Int.ofNat (Int.toNat (↑g.3 :
  Int)))) :: Value.int IntKind.u8 (0 : Int) :: Value.int IntKind.u8 (0 : Int) :: Value.int IntKind.u8 (0 : Int) :: Value.int IntKind.u8 (0 : Int) :: Value.int IntKind.u8 (0
  : Int) :: Value.int IntKind.u8 (1 : Int) :: ([] ++ List.take (Int.toNat (↑g.3 : Int) * 1) (List.drop 0 (List.replicate (Int.toNat (↑g.3 : Int)) (Value.int IntKind.u8 (0 :
  Int))))))) true (Ob.cells true))) 0 (some 0))) (9 + Int.toNat (↑g.3 : Int) - 9) 1] 3) - (0 : Int))) - 0) * 1) (List.drop 0 (gCells (cellZ [Value.int IntKind.i64 (0 : Int),
  Value.int IntKind.i64 (0 : Int), Value.int IntKind.i64 (1 : Int), Value.slice (some (Addr.mk (yZ (Row.mk (List.take ((9 + Int.toNat (↑g.3 : Int)) * 1) (Value.int
  IntKind.u8 (IntKind.wrap IntKind.u8 (ishr IntKind.i64 (Int.ofNat (Int.toNat (↑g.3 : Int))) (16 : Int))) :: Value.int IntKind.u8 (IntKind.wrap IntKind.u8 (ishr IntKind.i64
  (Int.ofNat (Int.toNat (↑g.3 : Int))) (8 : Int))) :: Value.int IntKind.u8 (IntKind.wrap IntKind.u8 (Int.ofNat (Int.toNat (↑g.3 : Int)))) :: Value.int IntKind.u8 (0 : Int)
  :: Value.int IntKind.u8 (0 : Int) :: Value.int IntKind.u8 (0 : Int) :: Value.int IntKind.u8 (0 : Int) :: Value.int IntKind.u8 (0 : Int) :: Value.int IntKind.u8 (1 : Int)
  :: ([] ++ List.take (Int.toNat (↑g.3 : Int) * 1) (List.drop 0 (List.replicate (Int.toNat (↑g.3 : Int)) (Value.int IntKind.u8 (0 : Int))))))) true (Ob.cells true))) 0 (some
  0))) (9 + Int.toNat (↑g.3 : Int) - 9) 1] 3))))))))), Value.bool (iand IntKind.i64 (cellI [Value.int IntKind.i64 (0 : Int), Value.int IntKind.i64 (0 : Int), Value.int
  IntKind.i64 (1 : Int), Value.slice (some (Addr.mk (yZ (Row.mk (List.take ((9 + Int.toNat (↑g.3 : Int)) * 1) (Value.int IntKind.u8 (IntKind.wrap IntKind.u8 (ishr
  IntKind.i64 (Int.ofNat (Int.toNat (↑g.3 : Int))) (16 : Int))) :: Value.int IntKind.u8 (IntKind.wrap IntKind.u8 (ishr IntKind.i64 (Int.ofNat (Int.toNat (↑g.3 : Int))) (8 :
  Int))) :: Value.int IntKind.u8 (IntKind.wrap IntKind.u8 (Int.ofNat (Int.toNat (↑g.3 : Int)))) :: Value.int IntKind.u8 (0 : Int) :: Value.int IntKind.u8 (0 : Int) ::
  Value.int IntKind.u8 (0 : Int) :: Value.int IntKind.u8 (0 : Int) :: Value.int IntKind.u8 (0 : Int) :: Value.int IntKind.u8 (1 : Int) :: ([] ++ List.take (Int.toNat (↑g.3 :
  Int) * 1) (List.drop 0 (List.replicate (Int.toNat (↑g.3 : Int)) (Value.int IntKind.u8 (0 : Int))))))) true (Ob.cells true))) 0 (some 0))) (9 + Int.toNat (↑g.3 : Int) - 9)
  1] 1) (1 : Int) != (0 : Int)), Value.int IntKind.i64 (0 : Int)]))) (∃ y : Unit, ((True) /\ ((g.1 = g.1) /\ ((0 = 0) /\ (((↑(g.2 + g.3) : Int) = IntKind.wrap IntKind.i64
  ((↑g.2 : Int) + (↑g.3 : Int))) /\ ((true = true) /\ (((2 : Int) = (2 : Int)) /\ (((65535 : Int) = (65535 : Int)) /\ (((65536 : Int) = (65536 : Int)) /\ (((4096 : Int) =
  (4096 : Int)) /\ (((2147483647 : Int) = (2147483647 : Int)) /\ (((65535 : Int) = (65535 : Int)) /\ (((16384 : Int) = (16384 : Int)) /\ (((2147483647 : Int) = (2147483647 :
  Int)) /\ ((36 = 36) /\ ((0 = 0) /\ ((0 = 0) /\ ((0 = 0) /\ ((0 = 0) /\ (((65535 : Int) = (65535 : Int)) /\ ((g.4 - (↑g.3 : Int) = IntKind.wrap IntKind.i64 (g.4 - Int.ofNat
  (cellN [Value.int IntKind.i64 (0 : Int), Value.int IntKind.i64 (0 : Int), Value.int IntKind.i64 (1 : Int), Value.slice (some (Addr.mk (yZ (Row.mk (List.take ((9 +
  Int.toNat (↑g.3 : Int)) * 1) (Value.int IntKind.u8 (IntKind.wrap IntKind.u8 (ishr IntKind.i64 (Int.ofNat (Int.toNat (↑g.3 : Int))) (16 : Int))) :: Value.int IntKind.u8
  (IntKind.wrap IntKind.u8 (ishr IntKind.i64 (Int.ofNat (Int.toNat (↑g.3 : Int))) (8 : Int))) :: Value.int IntKind.u8 (IntKind.wrap IntKind.u8 (Int.ofNat (Int.toNat (↑g.3 :
  Int)))) :: Value.int IntKind.u8 (0 : Int) :: Value.int IntKind.u8 (0 : Int) :: Value.int IntKind.u8 (0 : Int) :: Value.int IntKind.u8 (0 : Int) :: Value.int IntKind.u8 (0
  : Int) :: Value.int IntKind.u8 (1 : Int) :: ([] ++ List.take (Int.toNat (↑g.3 : Int) * 1) (List.drop 0 (List.replicate (Int.toNat (↑g.3 : Int)) (Value.int IntKind.u8 (0 :
  Int))))))) true (Ob.cells true))) 0 (some 0))) (9 + Int.toNat (↑g.3 : Int) - 9) 1] 3))) /\ ((0 = 0) /\ ((1 = 1) /\ (((1 : Int) = (1 : Int)) /\ (((1 : Int) = (1 : Int)) /\
  ((true = true) /\ ((false = false) /\ ((false = false) /\ ((false = false) /\ ((false = false) /\ (((0 : Int) = (0 : Int)) /\ ((false = false) /\ ((Eq (α := List Value)
  ([Value.int IntKind.u8 (0 : Int), Value.int IntKind.u8 (0 : Int), Value.int IntKind.u8 (18 : Int), Value.int IntKind.u8 (4 : Int), Value.int IntKind.u8 (0 : Int),
  Value.int IntKind.u8 (0 : Int), Value.int IntKind.u8 (0 : Int), Value.int IntKind.u8 (0 : Int), Value.int IntKind.u8 (0 : Int), Value.int IntKind.u8 (0 : Int), Value.int
  IntKind.u8 (3 : Int), Value.int IntKind.u8 (0 : Int), Value.int IntKind.u8 (0 : Int), Value.int IntKind.u8 (0 : Int), Value.int IntKind.u8 (2 : Int), Value.int IntKind.u8
  (0 : Int), Value.int IntKind.u8 (4 : Int), Value.int IntKind.u8 (0 : Int), Value.int IntKind.u8 (0 : Int), Value.int IntKind.u8 (255 : Int), Value.int IntKind.u8 (255 :
  Int), Value.int IntKind.u8 (0 : Int), Value.int IntKind.u8 (6 : Int), Value.int IntKind.u8 (0 : Int), Value.int IntKind.u8 (1 : Int), Value.int IntKind.u8 (0 : Int),
  Value.int IntKind.u8 (0 : Int), Value.int IntKind.u8 (0 : Int), Value.int IntKind.u8 (0 : Int), Value.int IntKind.u8 (0 : Int), Value.int IntKind.u8 (4 : Int), Value.int
  IntKind.u8 (1 : Int), Value.int IntKind.u8 (0 : Int), Value.int IntKind.u8 (0 : Int), Value.int IntKind.u8 (0 : Int), Value.int IntKind.u8 (0 : Int)]) ([Value.int
  IntKind.u8 (0 : Int), Value.int IntKind.u8 (0 : Int), Value.int IntKind.u8 (18 : Int), Value.int IntKind.u8 (4 : Int), Value.int IntKind.u8 (0 : Int), Value.int IntKind.u8
  (0 : Int), Value.int IntKind.u8 (0 : Int), Value.int IntKind.u8 (0 : Int), Value.int IntKind.u8 (0 : Int), Value.int IntKind.u8 (0 : Int), Value.int IntKind.u8 (3 : Int),
  Value.int IntKind.u8 (0 : Int), Value.int IntKind.u8 (0 : Int), Value.int IntKind.u8 (0 : Int), Value.int IntKind.u8 (2 : Int), Value.int IntKind.u8 (0 : Int), Value.int
  IntKind.u8 (4 : Int), Value.int IntKind.u8 (0 : Int), Value.int IntKind.u8 (0 : Int), Value.int IntKind.u8 (255 : Int), Value.int IntKind.u8 (255 : Int), Value.int
  IntKind.u8 (0 : Int), Value.int IntKind.u8 (6 : Int), Value.int IntKind.u8 (0 : Int), Value.int IntKind.u8 (1 : Int), Value.int IntKind.u8 (0 : Int), Value.int IntKind.u8
  (0 : Int), Value.int IntKind.u8 (0 : Int), Value.int IntKind.u8 (0 : Int), Value.int IntKind.u8 (0 : Int), Value.int IntKind.u8 (4 : Int), Value.int IntKind.u8 (1 : Int),
  Value.int IntKind.u8 (0 : Int), Value.int IntKind.u8 (0 : Int), Value.int IntKind.u8 (0 : Int), Value.int IntKind.u8 (0 : Int)])) /\ ((Plain [Value.int IntKind.u8 (0 :
  Int), Value.int IntKind.u8 (0 : Int), Value.int IntKind.u8 (18 : Int), Value.int IntKind.u8 (4 : Int), Value.int IntKind.u8 (0 : Int), Value.int IntKind.u8 (0 : Int),
  Value.int IntKind.u8 (0 : Int), Value.int IntKind.u8 (0 : Int), Value.int IntKind.u8 (0 : Int), Value.int IntKind.u8 (0 : Int), Value.int IntKind.u8 (3 : Int), Value.int
  IntKind.u8 (0 : Int), Value.int IntKind.u8 (0 : Int), Value.int IntKind.u8 (0 : Int), Value.int IntKind.u8 (2 : Int), Value.int IntKind.u8 (0 : Int), Value.int IntKind.u8
  (4 : Int), Value.int IntKind.u8 (0 : Int), Value.int IntKind.u8 (0 : Int), Value.int IntKind.u8 (255 : Int), Value.int IntKind.u8 (255 : Int), Value.int IntKind.u8 (0 :
  Int), Value.int IntKind.u8 (6 : Int), Value.int IntKind.u8 (0 : Int), Value.int IntKind.u8 (1 : Int), Value.int IntKind.u8 (0 : Int), Value.int IntKind.u8 (0 : Int),
  Value.int IntKind.u8 (0 : Int), Value.int IntKind.u8 (0 : Int), Value.int IntKind.u8 (0 : Int), Value.int IntKind.u8 (4 : Int), Value.int IntKind.u8 (1 : Int), Value.int
  IntKind.u8 (0 : Int), Value.int IntKind.u8 (0 : Int), Value.int IntKind.u8 (0 : Int), Value.int IntKind.u8 (0 : Int)]) /\ ((9 + g.3 = 0 + (9 + Int.toNat (↑g.3 : Int))) /\
  ((0 = 0) /\ (((16384 : Int) = (16384 : Int)) /\ ((ByteArray.mk #[] = ByteArray.mk #[]) /\ (((0 : Int) = (0 : Int)) /\ (((0 : Int) = (0 : Int)) /\ (((0 : Int) = (0 : Int))
  /\ ((Eq (α := List Value) (Value.int IntKind.u8 (↑(UInt8.toNat (by8 (ishr IntKind.i64 (↑g.3 : Int) (16 : Int)))) : Int) :: Value.int IntKind.u8 (↑(UInt8.toNat (by8 (ishr
  IntKind.i64 (↑g.3 : Int) (8 : Int)))) : Int) :: Value.int IntKind.u8 (↑(UInt8.toNat (by8 (↑g.3 : Int))) : Int) :: Value.int IntKind.u8 (0 : Int) :: Value.int IntKind.u8 (0
  : Int) :: Value.int IntKind.u8 (0 : Int) :: Value.int IntKind.u8 (0 : Int) :: Value.int IntKind.u8 (0 : Int) :: Value.int IntKind.u8 (1 : Int) :: List.map bVal ([] ++
  List.replicate g.3 0)) (bCells (yP (Row.mk (List.take ((9 + Int.toNat (↑g.3 : Int)) * 1) (Value.int IntKind.u8 (IntKind.wrap IntKind.u8 (ishr IntKind.i64 (Int.ofNat
  (Int.toNat (↑g.3 : Int))) (16 : Int))) :: Value.int IntKind.u8 (IntKind.wrap IntKind.u8 (ishr IntKind.i64 (Int.ofNat (Int.toNat (↑g.3 : Int))) (8 : Int))) :: Value.int
  IntKind.u8 (IntKind.wrap IntKind.u8 (Int.ofNat (Int.toNat (↑g.3 : Int)))) :: Value.int IntKind.u8 (0 : Int) :: Value.int IntKind.u8 (0 : Int) :: Value.int IntKind.u8 (0 :
  Int) :: Value.int IntKind.u8 (0 : Int) :: Value.int IntKind.u8 (0 : Int) :: Value.int IntKind.u8 (1 : Int) :: ([] ++ List.take (Int.toNat (↑g.3 : Int) * 1) (List.drop 0
  (List.replicate (Int.toNat (↑g.3 : Int)) (Value.int IntKind.u8 (0 : Int))))))) true (Ob.cells true))))) /\ ((Plain (Value.int IntKind.u8 (↑(UInt8.toNat (by8 (ishr
  IntKind.i64 (↑g.3 : Int) (16 : Int)))) : Int) :: Value.int IntKind.u8 (↑(UInt8.toNat (by8 (ishr IntKind.i64 (↑g.3 : Int) (8 : Int)))) : Int) :: Value.int IntKind.u8
  (↑(UInt8.toNat (by8 (↑g.3 : Int))) : Int) :: Value.int IntKind.u8 (0 : Int) :: Value.int IntKind.u8 (0 : Int) :: Value.int IntKind.u8 (0 : Int) :: Value.int IntKind.u8 (0
  : Int) :: Value.int IntKind.u8 (0 : Int) :: Value.int IntKind.u8 (1 : Int) :: List.map bVal ([] ++ List.replicate g.3 0))) /\ ((0 = 0) /\ (((4096 : Int) = (4096 : Int)) /\
  (((65536 : Int) = (65536 : Int)) /\ ((false = false) /\ ((0 = 0) /\ ((false = false) /\ (((0 : Int) = (0 : Int)) /\ ((0 = 0) /\ (((1 : Int) = (1 : Int)) /\ (((1 : Int) =
  (1 : Int)) /\ (((65535 : Int) = (65535 : Int)) /\ ((g.4 - (↑g.3 : Int) = g.4) /\ ((true = true) /\ ((false = false) /\ (((0 : Int) = (0 : Int)) /\ (((4096 : Int) = (4096 :
  Int)) /\ (((0 : Int) = (0 : Int)) /\ (((4096 : Int) = (4096 : Int)) /\ True))))))))))))))))))))))))))))))))))))))))))))))))))))))))))))) False)) False) False) False)
  False) (br (veq 20 (Value.agg (Array.mk [Value.int IntKind.i64 g.4])) (Value.agg (Array.mk [Value.int IntKind.i64 g.4]))) (br (veq 20 (Value.int IntKind.i64 (Int.ofNat
  (cellN [Value.int IntKind.i64 (0 : Int), Value.int IntKind.i64 (0 : Int), Value.int IntKind.i64 (1 : Int), Value.slice (some (Addr.mk (yZ (Row.mk (List.take ((9 +
  Int.toNat (↑g.3 : Int)) * 1) (Value.int IntKind.u8 (IntKind.wrap IntKind.u8 (ishr IntKind.i64 (Int.ofNat (Int.toNat (↑g.3 : Int))) (16 : Int))) :: Value.int IntKind.u8
  (IntKind.wrap IntKind.u8 (ishr IntKind.i64 (Int.ofNat (Int.toNat (↑g.3 : Int))) (8 : Int))) :: Value.int IntKind.u8 (IntKind.wrap IntKind.u8 (Int.ofNat (Int.toNat (↑g.3 :
  Int)))) :: Value.int IntKind.u8 (0 : Int) :: Value.int IntKind.u8 (0 : Int) :: Value.int IntKind.u8 (0 : Int) :: Value.int IntKind.u8 (0 : Int) :: Value.int IntKind.u8 (0
  : Int) :: Value.int IntKind.u8 (1 : Int) :: ([] ++ List.take (Int.toNat (↑g.3 : Int) * 1) (List.drop 0 (List.replicate (Int.toNat (↑g.3 : Int)) (Value.int IntKind.u8 (0 :
  Int))))))) true (Ob.cells true))) 0 (some 0))) (9 + Int.toNat (↑g.3 : Int) - 9) 1] 3))) (Value.int IntKind.i64 (Int.ofNat (cellN [Value.int IntKind.i64 (0 : Int),
  Value.int IntKind.i64 (0 : Int), Value.int IntKind.i64 (1 : Int), Value.slice (some (Addr.mk (yZ (Row.mk (List.take ((9 + Int.toNat (↑g.3 : Int)) * 1) (Value.int
  IntKind.u8 (IntKind.wrap IntKind.u8 (ishr IntKind.i64 (Int.ofNat (Int.toNat (↑g.3 : Int))) (16 : Int))) :: Value.int IntKind.u8 (IntKind.wrap IntKind.u8 (ishr IntKind.i64
  (Int.ofNat (Int.toNat (↑g.3 : Int))) (8 : Int))) :: Value.int IntKind.u8 (IntKind.wrap IntKind.u8 (Int.ofNat (Int.toNat (↑g.3 : Int)))) :: Value.int IntKind.u8 (0 : Int)
  :: Value.int IntKind.u8 (0 : Int) :: Value.int IntKind.u8 (0 : Int) :: Value.int IntKind.u8 (0 : Int) :: Value.int IntKind.u8 (0 : Int) :: Value.int IntKind.u8 (1 : Int)
  :: ([] ++ List.take (Int.toNat (↑g.3 : Int) * 1) (List.drop 0 (List.replicate (Int.toNat (↑g.3 : Int)) (Value.int IntKind.u8 (0 : Int))))))) true (Ob.cells true))) 0 (some
  0))) (9 + Int.toNat (↑g.3 : Int) - 9) 1] 3)))) (br (IntKind.wrap IntKind.i64 (Int.ofNat (cellN [Value.int IntKind.i64 (0 : Int), Value.int IntKind.i64 (0 : Int), Value.int
  IntKind.i64 (1 : Int), Value.slice (some (Addr.mk (yZ (Row.mk (List.take ((9 + Int.toNat (↑g.3 : Int)) * 1) (Value.int IntKind.u8 (IntKind.wrap IntKind.u8 (ishr
  IntKind.i64 (Int.ofNat (Int.toNat (↑g.3 : Int))) (16 : Int))) :: Value.int IntKind.u8 (IntKind.wrap IntKind.u8 (ishr IntKind.i64 (Int.ofNat (Int.toNat (↑g.3 : Int))) (8 :
  Int))) :: Value.int IntKind.u8 (IntKind.wrap IntKind.u8 (Int.ofNat (Int.toNat (↑g.3 : Int)))) :: Value.int IntKind.u8 (0 : Int) :: Value.int IntKind.u8 (0 : Int) ::
  Value.int IntKind.u8 (0 : Int) :: Value.int IntKind.u8 (0 : Int) :: Value.int IntKind.u8 (0 : Int) :: Value.int IntKind.u8 (1 : Int) :: ([] ++ List.take (Int.toNat (↑g.3 :
  Int) * 1) (List.drop 0 (List.replicate (Int.toNat (↑g.3 : Int)) (Value.int IntKind.u8 (0 : Int))))))) true (Ob.cells true))) 0 (some 0))) (9 + Int.toNat (↑g.3 : Int) - 9)
  1] 3) - Int.ofNat (Int.toNat (IntKind.wrap IntKind.i64 (Int.ofNat (cellN [Value.int IntKind.i64 (0 : Int), Value.int IntKind.i64 (0 : Int), Value.int IntKind.i64 (1 :
  Int), Value.slice (some (Addr.mk (yZ (Row.mk (List.take ((9 + Int.toNat (↑g.3 : Int)) * 1) (Value.int IntKind.u8 (IntKind.wrap IntKind.u8 (ishr IntKind.i64 (Int.ofNat
  (Int.toNat (↑g.3 : Int))) (16 : Int))) :: Value.int IntKind.u8 (IntKind.wrap IntKind.u8 (ishr IntKind.i64 (Int.ofNat (Int.toNat (↑g.3 : Int))) (8 : Int))) :: Value.int
  IntKind.u8 (IntKind.wrap IntKind.u8 (Int.ofNat (Int.toNat (↑g.3 : Int)))) :: Value.int IntKind.u8 (0 : Int) :: Value.int IntKind.u8 (0 : Int) :: Value.int IntKind.u8 (0 :
  Int) :: Value.int IntKind.u8 (0 : Int) :: Value.int IntKind.u8 (0 : Int) :: Value.int IntKind.u8 (1 : Int) :: ([] ++ List.take (Int.toNat (↑g.3 : Int) * 1) (List.drop 0
  (List.replicate (Int.toNat (↑g.3 : Int)) (Value.int IntKind.u8 (0 : Int))))))) true (Ob.cells true))) 0 (some 0))) (9 + Int.toNat (↑g.3 : Int) - 9) 1] 3) - (0 : Int))) -
  0)) == (0 : Int)) (br (decide (0 + (Int.toNat (IntKind.wrap IntKind.i64 (Int.ofNat (cellN [Value.int IntKind.i64 (0 : Int), Value.int IntKind.i64 (0 : Int), Value.int
  IntKind.i64 (1 : Int), Value.slice (some (Addr.mk (yZ (Row.mk (List.take ((9 + Int.toNat (↑g.3 : Int)) * 1) (Value.int IntKind.u8 (IntKind.wrap IntKind.u8 (ishr
  IntKind.i64 (Int.ofNat (Int.toNat (↑g.3 : Int))) (16 : Int))) :: Value.int IntKind.u8 (IntKind.wrap IntKind.u8 (ishr IntKind.i64 (Int.ofNat (Int.toNat (↑g.3 : Int))) (8 :
  Int))) :: Value.int IntKind.u8 (IntKind.wrap IntKind.u8 (Int.ofNat (Int.toNat (↑g.3 : Int)))) :: Value.int IntKind.u8 (0 : Int) :: Value.int IntKind.u8 (0 : Int) ::
  Value.int IntKind.u8 (0 : Int) :: Value.int IntKind.u8 (0 : Int) :: Value.int IntKind.u8 (0 : Int) :: Value.int IntKind.u8 (1 : Int) :: ([] ++ List.take (Int.toNat (↑g.3 :
  Int) * 1) (List.drop 0 (List.replicate (Int.toNat (↑g.3 : Int)) (Value.int IntKind.u8 (0 : Int))))))) true (Ob.cells true))) 0 (some 0))) (9 + Int.toNat (↑g.3 : Int) - 9)
  1] 3) - (0 : Int))) - 0) <= List.length (List.take ((Int.toNat (IntKind.wrap IntKind.i64 (Int.ofNat (cellN [Value.int IntKind.i64 (0 : Int), Value.int IntKind.i64 (0 :
  Int), Value.int IntKind.i64 (1 : Int), Value.slice (some (Addr.mk (yZ (Row.mk (List.take ((9 + Int.toNat (↑g.3 : Int)) * 1) (Value.int IntKind.u8 (IntKind.wrap IntKind.u8
  (ishr IntKind.i64 (Int.ofNat (Int.toNat (↑g.3 : Int))) (16 : Int))) :: Value.int IntKind.u8 (IntKind.wrap IntKind.u8 (ishr IntKind.i64 (Int.ofNat (Int.toNat (↑g.3 : Int)))
  (8 : Int))) :: Value.int IntKind.u8 (IntKind.wrap IntKind.u8 (Int.ofNat (Int.toNat (↑g.3 : Int)))) :: Value.int IntKind.u8 (0 : Int) :: Value.int IntKind.u8 (0 : Int) ::
  Value.int IntKind.u8 (0 : Int) :: Value.int IntKind.u8 (0 : Int) :: Value.int IntKind.u8 (0 : Int) :: Value.int IntKind.u8 (1 : Int) :: ([] ++ List.take (Int.toNat (↑g.3 :
  Int) * 1) (List.drop 0 (List.replicate (Int.toNat (↑g.3 : Int)) (Value.int IntKind.u8 (0 : Int))))))) true (Ob.cells true))) 0 (some 0))) (9 + Int.toNat (↑g.3 : Int) - 9)
  1] 3) - (0 : Int))) - 0) * 1) (List.drop 0 (gCells (cellZ [Value.int IntKind.i64 (0 : Int), Value.int IntKind.i64 (0 : Int), Value.int IntKind.i64 (1 : Int), Value.slice
  (some (Addr.mk (yZ (Row.mk (List.take ((9 + Int.toNat (↑g.3 : Int)) * 1) (Value.int IntKind.u8 (IntKind.wrap IntKind.u8 (ishr IntKind.i64 (Int.ofNat (Int.toNat (↑g.3 :
  Int))) (16 : Int))) :: Value.int IntKind.u8 (IntKind.wrap IntKind.u8 (ishr IntKind.i64 (Int.ofNat (Int.toNat (↑g.3 : Int))) (8 : Int))) :: Value.int IntKind.u8
  (IntKind.wrap IntKind.u8 (Int.ofNat (Int.toNat (↑g.3 : Int)))) :: Value.int IntKind.u8 (0 : Int) :: Value.int IntKind.u8 (0 : Int) :: Value.int IntKind.u8 (0 : Int) ::
  Value.int IntKind.u8 (0 : Int) :: Value.int IntKind.u8 (0 : Int) :: Value.int IntKind.u8 (1 : Int) :: ([] ++ List.take (Int.toNat (↑g.3 : Int) * 1) (List.drop 0
  (List.replicate (Int.toNat (↑g.3 : Int)) (Value.int IntKind.u8 (0 : Int))))))) true (Ob.cells true))) 0 (some 0))) (9 + Int.toNat (↑g.3 : Int) - 9) 1] 3)))))) ((AllB
  (List.take (Int.toNat (IntKind.wrap IntKind.i64 (Int.ofNat (cellN [Value.int IntKind.i64 (0 : Int), Value.int IntKind.i64 (0 : Int), Value.int IntKind.i64 (1 : Int),
  Value.slice (some (Addr.mk (yZ (Row.mk (List.take ((9 + Int.toNat (↑g.3 : Int)) * 1) (Value.int IntKind.u8 (IntKind.wrap IntKind.u8 (ishr IntKind.i64 (Int.ofNat (Int.toNat
  (↑g.3 : Int))) (16 : Int))) :: Value.int IntKind.u8 (IntKind.wrap IntKind.u8 (ishr IntKind.i64 (Int.ofNat (Int.toNat (↑g.3 : Int))) (8 : Int))) :: Value.int IntKind.u8
  (IntKind.wrap IntKind.u8 (Int.ofNat (Int.toNat (↑g.3 : Int)))) :: Value.int IntKind.u8 (0 : Int) :: Value.int IntKind.u8 (0 : Int) :: Value.int IntKind.u8 (0 : Int) ::
  Value.int IntKind.u8 (0 : Int) :: Value.int IntKind.u8 (0 : Int) :: Value.int IntKind.u8 (1 : Int) :: ([] ++ List.take (Int.toNat (↑g.3 : Int) * 1) (List.drop 0
  (List.replicate (Int.toNat (↑g.3 : Int)) (Value.int IntKind.u8 (0 : Int))))))) true (Ob.cells true))) 0 (some 0))) (9 + Int.toNat (↑g.3 : Int) - 9) 1] 3) - (0 : Int))) -
  0) (List.drop 0 (List.take ((Int.toNat (IntKind.wrap IntKind.i64 (Int.ofNat (cellN [Value.int IntKind.i64 (0 : Int), Value.int IntKind.i64 (0 : Int), Value.int IntKind.i64
  (1 : Int), Value.slice (some (Addr.mk (yZ (Row.mk (List.take ((9 + Int.toNat (↑g.3 : Int)) * 1) (Value.int IntKind.u8 (IntKind.wrap IntKind.u8 (ishr IntKind.i64 (Int.ofNat
  (Int.toNat (↑g.3 : Int))) (16 : Int))) :: Value.int IntKind.u8 (IntKind.wrap IntKind.u8 (ishr IntKind.i64 (Int.ofNat (Int.toNat (↑g.3 : Int))) (8 : Int))) :: Value.int
  IntKind.u8 (IntKind.wrap IntKind.u8 (Int.ofNat (Int.toNat (↑g.3 : Int)))) :: Value.int IntKind.u8 (0 : Int) :: Value.int IntKind.u8 (0 : Int) :: Value.int IntKind.u8 (0 :
  Int) :: Value.int IntKind.u8 (0 : Int) :: Value.int IntKind.u8 (0 : Int) :: Value.int IntKind.u8 (1 : Int) :: ([] ++ List.take (Int.toNat (↑g.3 : Int) * 1) (List.drop 0
  (List.replicate (Int.toNat (↑g.3 : Int)) (Value.int IntKind.u8 (0 : Int))))))) true (Ob.cells true))) 0 (some 0))) (9 + Int.toNat (↑g.3 : Int) - 9) 1] 3) - (0 : Int))) -
  0) * 1) (List.drop 0 (gCells (cellZ [Value.int IntKind.i64 (0 : Int), Value.int IntKind.i64 (0 : Int), Value.int IntKind.i64 (1 : Int), Value.slice (some (Addr.mk (yZ
  (Row.mk (List.take ((9 + Int.toNat (↑g.3 : Int)) * 1) (Value.int IntKind.u8 (IntKind.wrap IntKind.u8 (ishr IntKind.i64 (Int.ofNat (Int.toNat (↑g.3 : Int))) (16 : Int))) ::
  Value.int IntKind.u8 (IntKind.wrap IntKind.u8 (ishr IntKind.i64 (Int.ofNat (Int.toNat (↑g.3 : Int))) (8 : Int))) :: Value.int IntKind.u8 (IntKind.wrap IntKind.u8
  (Int.ofNat (Int.toNat (↑g.3 : Int)))) :: Value.int IntKind.u8 (0 : Int) :: Value.int IntKind.u8 (0 : Int) :: Value.int IntKind.u8 (0 : Int) :: Value.int IntKind.u8 (0 :
  Int) :: Value.int IntKind.u8 (0 : Int) :: Value.int IntKind.u8 (1 : Int) :: ([] ++ List.take (Int.toNat (↑g.3 : Int) * 1) (List.drop 0 (List.replicate (Int.toNat (↑g.3 :
  Int)) (Value.int IntKind.u8 (0 : Int))))))) true (Ob.cells true))) 0 (some 0))) (9 + Int.toNat (↑g.3 : Int) - 9) 1] 3))))))) /\ (br (veq 20 (Value.agg (Array.mk [Value.int
  IntKind.i64 (3 : Int), Value.int IntKind.i64 (cellI [Value.int IntKind.i64 (0 : Int), Value.int IntKind.i64 (0 : Int), Value.int IntKind.i64 (1 : Int), Value.slice (some
  (Addr.mk (yZ (Row.mk (List.take ((9 + Int.toNat (↑g.3 : Int)) * 1) (Value.int IntKind.u8 (IntKind.wrap IntKind.u8 (ishr IntKind.i64 (Int.ofNat (Int.toNat (↑g.3 : Int)))
  (16 : Int))) :: Value.int IntKind.u8 (IntKind.wrap IntKind.u8 (ishr IntKind.i64 (Int.ofNat (Int.toNat (↑g.3 : Int))) (8 : Int))) :: Value.int IntKind.u8 (IntKind.wrap
  IntKind.u8 (Int.ofNat (Int.toNat (↑g.3 : Int)))) :: Value.int IntKind.u8 (0 : Int) :: Value.int IntKind.u8 (0 : Int) :: Value.int IntKind.u8 (0 : Int) :: Value.int
  IntKind.u8 (0 : Int) :: Value.int IntKind.u8 (0 : Int) :: Value.int IntKind.u8 (1 : Int) :: ([] ++ List.take (Int.toNat (↑g.3 : Int) * 1) (List.drop 0 (List.replicate
  (Int.toNat (↑g.3 : Int)) (Value.int IntKind.u8 (0 : Int))))))) true (Ob.cells true))) 0 (some 0))) (9 + Int.toNat (↑g.3 : Int) - 9) 1] 2), Value.slice none 0 0,
  Value.string (ByteArray.mk (Array.mk (List.map bOf (List.take (Int.toNat (IntKind.wrap IntKind.i64 (Int.ofNat (cellN [Value.int IntKind.i64 (0 : Int), Value.int
  IntKind.i64 (0 : Int), Value.int IntKind.i64 (1 : Int), Value.slice (some (Addr.mk (yZ (Row.mk (List.take ((9 + Int.toNat (↑g.3 : Int)) * 1) (Value.int IntKind.u8
  (IntKind.wrap IntKind.u8 (ishr IntKind.i64 (Int.ofNat (Int.toNat (↑g.3 : Int))) (16 : Int))) :: Value.int IntKind.u8 (IntKind.wrap IntKind.u8 (ishr IntKind.i64 (Int.ofNat
  (Int.toNat (↑g.3 : Int))) (8 : Int))) :: Value.int IntKind.u8 (IntKind.wrap IntKind.u8 (Int.ofNat (Int.toNat (↑g.3 : Int)))) :: Value.int IntKind.u8 (0 : Int) :: Value.int
  IntKind.u8 (0 : Int) :: Value.int IntKind.u8 (0 : Int) :: Value.int IntKind.u8 (0 : Int) :: Value.int IntKind.u8 (0 : Int) :: Value.int IntKind.u8 (1 : Int) :: ([] ++
  List.take (Int.toNat (↑g.3 : Int) * 1) (List.drop 0 (List.replicate (Int.toNat (↑g.3 : Int)) (Value.int IntKind.u8 (0 : Int))))))) true (Ob.cells true))) 0 (some 0))) (9 +
  Int.toNat (↑g.3 : Int) - 9) 1] 3) - (0 : Int))) - 0) (List.drop 0 (List.take ((Int.toNat (IntKind.wrap IntKind.i64 (Int.ofNat (cellN [Value.int IntKind.i64 (0 : Int),
  Value.int IntKind.i64 (0 : Int), Value.int IntKind.i64 (1 : Int), Value.slice (some (Addr.mk (yZ (Row.mk (List.take ((9 + Int.toNat (↑g.3 : Int)) * 1) (Value.int
  IntKind.u8 (IntKind.wrap IntKind.u8 (ishr IntKind.i64 (Int.ofNat (Int.toNat (↑g.3 : Int))) (16 : Int))) :: Value.int IntKind.u8 (IntKind.wrap IntKind.u8 (ishr IntKind.i64
  (Int.ofNat (Int.toNat (↑g.3 : Int))) (8 : Int))) :: Value.int IntKind.u8 (IntKind.wrap IntKind.u8 (Int.ofNat (Int.toNat (↑g.3 : Int)))) :: Value.int IntKind.u8 (0 : Int)
  :: Value.int IntKind.u8 (0 : Int) :: Value.int IntKind.u8 (0 : Int) :: Value.int IntKind.u8 (0 : Int) :: Value.int IntKind.u8 (0 : Int) :: Value.int IntKind.u8 (1 : Int)
  :: ([] ++ List.take (Int.toNat (↑g.3 : Int) * 1) (List.drop 0 (List.replicate (Int.toNat (↑g.3 : Int)) (Value.int IntKind.u8 (0 : Int))))))) true (Ob.cells true))) 0 (some
  0))) (9 + Int.toNat (↑g.3 : Int) - 9) 1] 3) - (0 : Int))) - 0) * 1) (List.drop 0 (gCells (cellZ [Value.int IntKind.i64 (0 : Int), Value.int IntKind.i64 (0 : Int),
  Value.int IntKind.i64 (1 : Int), Value.slice (some (Addr.mk (yZ (Row.mk (List.take ((9 + Int.toNat (↑g.3 : Int)) * 1) (Value.int IntKind.u8 (IntKind.wrap IntKind.u8 (ishr
  IntKind.i64 (Int.ofNat (Int.toNat (↑g.3 : Int))) (16 : Int))) :: Value.int IntKind.u8 (IntKind.wrap IntKind.u8 (ishr IntKind.i64 (Int.ofNat (Int.toNat (↑g.3 : Int))) (8 :
  Int))) :: Value.int IntKind.u8 (IntKind.wrap IntKind.u8 (Int.ofNat (Int.toNat (↑g.3 : Int)))) :: Value.int IntKind.u8 (0 : Int) :: Value.int IntKind.u8 (0 : Int) ::
  Value.int IntKind.u8 (0 : Int) :: Value.int IntKind.u8 (0 : Int) :: Value.int IntKind.u8 (0 : Int) :: Value.int IntKind.u8 (1 : Int) :: ([] ++ List.take (Int.toNat (↑g.3 :
  Int) * 1) (List.drop 0 (List.replicate (Int.toNat (↑g.3 : Int)) (Value.int IntKind.u8 (0 : Int))))))) true (Ob.cells true))) 0 (some 0))) (9 + Int.toNat (↑g.3 : Int) - 9)
  1] 3))))))))), Value.bool (iand IntKind.i64 (cellI [Value.int IntKind.i64 (0 : Int), Value.int IntKind.i64 (0 : Int), Value.int IntKind.i64 (1 : Int), Value.slice (some
  (Addr.mk (yZ (Row.mk (List.take ((9 + Int.toNat (↑g.3 : Int)) * 1) (Value.int IntKind.u8 (IntKind.wrap IntKind.u8 (ishr IntKind.i64 (Int.ofNat (Int.toNat (↑g.3 : Int)))
  (16 : Int))) :: Value.int IntKind.u8 (IntKind.wrap IntKind.u8 (ishr IntKind.i64 (Int.ofNat (Int.toNat (↑g.3 : Int))) (8 : Int))) :: Value.int IntKind.u8 (IntKind.wrap
  IntKind.u8 (Int.ofNat (Int.toNat (↑g.3 : Int)))) :: Value.int IntKind.u8 (0 : Int) :: Value.int IntKind.u8 (0 : Int) :: Value.int IntKind.u8 (0 : Int) :: Value.int
  IntKind.u8 (0 : Int) :: Value.int IntKind.u8 (0 : Int) :: Value.int IntKind.u8 (1 : Int) :: ([] ++ List.take (Int.toNat (↑g.3 : Int) * 1) (List.drop 0 (List.replicate
  (Int.toNat (↑g.3 : Int)) (Value.int IntKind.u8 (0 : Int))))))) true (Ob.cells true))) 0 (some 0))) (9 + Int.toNat (↑g.3 : Int) - 9) 1] 1) (1 : Int) != (0 : Int)),
  Value.int IntKind.i64 (0 : Int)])) (Value.agg (Array.mk [Value.int IntKind.i64 (3 : Int), Value.int IntKind.i64 (cellI [Value.int IntKind.i64 (0 : Int), Value.int
  IntKind.i64 (0 : Int), Value.int IntKind.i64 (1 : Int), Value.slice (some (Addr.mk (yZ (Row.mk (List.take ((9 + Int.toNat (↑g.3 : Int)) * 1) (Value.int IntKind.u8
  (IntKind.wrap IntKind.u8 (ishr IntKind.i64 (Int.ofNat (Int.toNat (↑g.3 : Int))) (16 : Int))) :: Value.int IntKind.u8 (IntKind.wrap IntKind.u8 (ishr IntKind.i64 (Int.ofNat
  (Int.toNat (↑g.3 : Int))) (8 : Int))) :: Value.int IntKind.u8 (IntKind.wrap IntKind.u8 (Int.ofNat (Int.toNat (↑g.3 : Int)))) :: Value.int IntKind.u8 (0 : Int) :: Value.int
  IntKind.u8 (0 : Int) :: Value.int IntKind.u8 (0 : Int) :: Value.int IntKind.u8 (0 : Int) :: Value.int IntKind.u8 (0 : Int) :: Value.int IntKind.u8 (1 : Int) :: ([] ++
  List.take (Int.toNat (↑g.3 : Int) * 1) (List.drop 0 (List.replicate (Int.toNat (↑g.3 : Int)) (Value.int IntKind.u8 (0 : Int))))))) true (Ob.cells true))) 0 (some 0))) (9 +
  Int.toNat (↑g.3 : Int) - 9) 1] 2), Value.slice none 0 0, Value.string (ByteArray.mk (Array.mk (List.map bOf (List.take (Int.toNat (IntKind.wrap IntKind.i64 (Int.ofNat
  (cellN [Value.int IntKind.i64 (0 : Int), Value.int IntKind.i64 (0 : Int), Value.int IntKind.i64 (1 : Int), Value.slice (some (Addr.mk (yZ (Row.mk (List.take ((9 +
  Int.toNat (↑g.3 : Int)) * 1) (Value.int IntKind.u8 (IntKind.wrap IntKind.u8 (ishr IntKind.i64 (Int.ofNat (Int.toNat (↑g.3 : Int))) (16 : Int))) :: Value.int IntKind.u8
  (IntKind.wrap IntKind.u8 (ishr IntKind.i64 (Int.ofNat (Int.toNat (↑g.3 : Int))) (8 : Int))) :: Value.int IntKind.u8 (IntKind.wrap IntKind.u8 (Int.ofNat (Int.toNat (↑g.3 :
  Int)))) :: Value.int IntKind.u8 (0 : Int) :: Value.int IntKind.u8 (0 : Int) :: Value.int IntKind.u8 (0 : Int) :: Value.int IntKind.u8 (0 : Int) :: Value.int IntKind.u8 (0
  : Int) :: Value.int IntKind.u8 (1 : Int) :: ([] ++ List.take (Int.toNat (↑g.3 : Int) * 1) (List.drop 0 (List.replicate (Int.toNat (↑g.3 : Int)) (Value.int IntKind.u8 (0 :
  Int))))))) true (Ob.cells true))) 0 (some 0))) (9 + Int.toNat (↑g.3 : Int) - 9) 1] 3) - (0 : Int))) - 0) (List.drop 0 (List.take ((Int.toNat (IntKind.wrap IntKind.i64
  (Int.ofNat (cellN [Value.int IntKind.i64 (0 : Int), Value.int IntKind.i64 (0 : Int), Value.int IntKind.i64 (1 : Int), Value.slice (some (Addr.mk (yZ (Row.mk (List.take ((9
  + Int.toNat (↑g.3 : Int)) * 1) (Value.int IntKind.u8 (IntKind.wrap IntKind.u8 (ishr IntKind.i64 (Int.ofNat (Int.toNat (↑g.3 : Int))) (16 : Int))) :: Value.int IntKind.u8
  (IntKind.wrap IntKind.u8 (ishr IntKind.i64 (Int.ofNat (Int.toNat (↑g.3 : Int))) (8 : Int))) :: Value.int IntKind.u8 (IntKind.wrap IntKind.u8 (Int.ofNat (Int.toNat (↑g.3 :
  Int)))) :: Value.int IntKind.u8 (0 : Int) :: Value.int IntKind.u8 (0 : Int) :: Value.int IntKind.u8 (0 : Int) :: Value.int IntKind.u8 (0 : Int) :: Value.int IntKind.u8 (0
  : Int) :: Value.int IntKind.u8 (1 : Int) :: ([] ++ List.take (Int.toNat (↑g.3 : Int) * 1) (List.drop 0 (List.replicate (Int.toNat (↑g.3 : Int)) (Value.int IntKind.u8 (0 :
  Int))))))) true (Ob.cells true))) 0 (some 0))) (9 + Int.toNat (↑g.3 : Int) - 9) 1] 3) - (0 : Int))) - 0) * 1) (List.drop 0 (gCells (cellZ [Value.int IntKind.i64 (0 : Int),
  Value.int IntKind.i64 (0 : Int), Value.int IntKind.i64 (1 : Int), Value.slice (some (Addr.mk (yZ (Row.mk (List.take ((9 + Int.toNat (↑g.3 : Int)) * 1) (Value.int
  IntKind.u8 (IntKind.wrap IntKind.u8 (ishr IntKind.i64 (Int.ofNat (Int.toNat (↑g.3 : Int))) (16 : Int))) :: Value.int IntKind.u8 (IntKind.wrap IntKind.u8 (ishr IntKind.i64
  (Int.ofNat (Int.toNat (↑g.3 : Int))) (8 : Int))) :: Value.int IntKind.u8 (IntKind.wrap IntKind.u8 (Int.ofNat (Int.toNat (↑g.3 : Int)))) :: Value.int IntKind.u8 (0 : Int)
  :: Value.int IntKind.u8 (0 : Int) :: Value.int IntKind.u8 (0 : Int) :: Value.int IntKind.u8 (0 : Int) :: Value.int IntKind.u8 (0 : Int) :: Value.int IntKind.u8 (1 : Int)
  :: ([] ++ List.take (Int.toNat (↑g.3 : Int) * 1) (List.drop 0 (List.replicate (Int.toNat (↑g.3 : Int)) (Value.int IntKind.u8 (0 : Int))))))) true (Ob.cells true))) 0 (some
  0))) (9 + Int.toNat (↑g.3 : Int) - 9) 1] 3))))))))), Value.bool (iand IntKind.i64 (cellI [Value.int IntKind.i64 (0 : Int), Value.int IntKind.i64 (0 : Int), Value.int
  IntKind.i64 (1 : Int), Value.slice (some (Addr.mk (yZ (Row.mk (List.take ((9 + Int.toNat (↑g.3 : Int)) * 1) (Value.int IntKind.u8 (IntKind.wrap IntKind.u8 (ishr
  IntKind.i64 (Int.ofNat (Int.toNat (↑g.3 : Int))) (16 : Int))) :: Value.int IntKind.u8 (IntKind.wrap IntKind.u8 (ishr IntKind.i64 (Int.ofNat (Int.toNat (↑g.3 : Int))) (8 :
  Int))) :: Value.int IntKind.u8 (IntKind.wrap IntKind.u8 (Int.ofNat (Int.toNat (↑g.3 : Int)))) :: Value.int IntKind.u8 (0 : Int) :: Value.int IntKind.u8 (0 : Int) ::
  Value.int IntKind.u8 (0 : Int) :: Value.int IntKind.u8 (0 : Int) :: Value.int IntKind.u8 (0 : Int) :: Value.int IntKind.u8 (1 : Int) :: ([] ++ List.take (Int.toNat (↑g.3 :
  Int) * 1) (List.drop 0 (List.replicate (Int.toNat (↑g.3 : Int)) (Value.int IntKind.u8 (0 : Int))))))) true (Ob.cells true))) 0 (some 0))) (9 + Int.toNat (↑g.3 : Int) - 9)
  1] 1) (1 : Int) != (0 : Int)), Value.int IntKind.i64 (0 : Int)]))) (∃ y : Unit, ((True) /\ ((g.1 = g.1) /\ ((0 = 0) /\ (((↑(g.2 + g.3) : Int) = IntKind.wrap IntKind.i64
  ((↑g.2 : Int) + (↑g.3 : Int))) /\ ((true = true) /\ (((2 : Int) = (2 : Int)) /\ (((65535 : Int) = (65535 : Int)) /\ (((65536 : Int) = (65536 : Int)) /\ (((4096 : Int) =
  (4096 : Int)) /\ (((2147483647 : Int) = (2147483647 : Int)) /\ (((65535 : Int) = (65535 : Int)) /\ (((16384 : Int) = (16384 : Int)) /\ (((2147483647 : Int) = (2147483647 :
  Int)) /\ ((36 = 36) /\ ((0 = 0) /\ ((0 = 0) /\ ((0 = 0) /\ ((0 = 0) /\ (((65535 : Int) = (65535 : Int)) /\ ((g.4 - (↑g.3 : Int) = IntKind.wrap IntKind.i64 (g.4 - Int.ofNat
  (cellN [Value.int IntKind.i64 (0 : Int), Value.int IntKind.i64 (0 : Int), Value.int IntKind.i64 (1 : Int), Value.slice (some (Addr.mk (yZ (Row.mk (List.take ((9 +
  Int.toNat (↑g.3 : Int)) * 1) (Value.int IntKind.u8 (IntKind.wrap IntKind.u8 (ishr IntKind.i64 (Int.ofNat (Int.toNat (↑g.3 : Int))) (16 : Int))) :: Value.int IntKind.u8
  (IntKind.wrap IntKind.u8 (ishr IntKind.i64 (Int.ofNat (Int.toNat (↑g.3 : Int))) (8 : Int))) :: Value.int IntKind.u8 (IntKind.wrap IntKind.u8 (Int.ofNat (Int.toNat (↑g.3 :
  Int)))) :: Value.int IntKind.u8 (0 : Int) :: Value.int IntKind.u8 (0 : Int) :: Value.int IntKind.u8 (0 : Int) :: Value.int IntKind.u8 (0 : Int) :: Value.int IntKind.u8 (0
  : Int) :: Value.int IntKind.u8 (1 : Int) :: ([] ++ List.take (Int.toNat (↑g.3 : Int) * 1) (List.drop 0 (List.replicate (Int.toNat (↑g.3 : Int)) (Value.int IntKind.u8 (0 :
  Int))))))) true (Ob.cells true))) 0 (some 0))) (9 + Int.toNat (↑g.3 : Int) - 9) 1] 3))) /\ ((0 = 0) /\ ((1 = 1) /\ (((1 : Int) = (1 : Int)) /\ (((1 : Int) = (1 : Int)) /\
  ((true = true) /\ ((false = false) /\ ((false = false) /\ ((false = false) /\ ((false = false) /\ (((0 : Int) = (0 : Int)) /\ ((false = false) /\ ((Eq (α := List Value)
  ([Value.int IntKind.u8 (0 : Int), Value.int IntKind.u8 (0 : Int), Value.int IntKind.u8 (18 : Int), Value.int IntKind.u8 (4 : Int), Value.int IntKind.u8 (0 : Int),
  Value.int IntKind.u8 (0 : Int), Value.int IntKind.u8 (0 : Int), Value.int IntKind.u8 (0 : Int), Value.int IntKind.u8 (0 : Int), Value.int IntKind.u8 (0 : Int), Value.int
  IntKind.u8 (3 : Int), Value.int IntKind.u8 (0 : Int), Value.int IntKind.u8 (0 : Int), Value.int IntKind.u8 (0 : Int), Value.int IntKind.u8 (2 : Int), Value.int IntKind.u8
  (0 : Int), Value.int IntKind.u8 (4 : Int), Value.int IntKind.u8 (0 : Int), Value.int IntKind.u8 (0 : Int), Value.int IntKind.u8 (255 : Int), Value.int IntKind.u8 (255 :
  Int), Value.int IntKind.u8 (0 : Int), Value.int IntKind.u8 (6 : Int), Value.int IntKind.u8 (0 : Int), Value.int IntKind.u8 (1 : Int), Value.int IntKind.u8 (0 : Int),
  Value.int IntKind.u8 (0 : Int), Value.int IntKind.u8 (0 : Int), Value.int IntKind.u8 (0 : Int), Value.int IntKind.u8 (0 : Int), Value.int IntKind.u8 (4 : Int), Value.int
  IntKind.u8 (1 : Int), Value.int IntKind.u8 (0 : Int), Value.int IntKind.u8 (0 : Int), Value.int IntKind.u8 (0 : Int), Value.int IntKind.u8 (0 : Int)]) ([Value.int
  IntKind.u8 (0 : Int), Value.int IntKind.u8 (0 : Int), Value.int IntKind.u8 (18 : Int), Value.int IntKind.u8 (4 : Int), Value.int IntKind.u8 (0 : Int), Value.int IntKind.u8
  (0 : Int), Value.int IntKind.u8 (0 : Int), Value.int IntKind.u8 (0 : Int), Value.int IntKind.u8 (0 : Int), Value.int IntKind.u8 (0 : Int), Value.int IntKind.u8 (3 : Int),
  Value.int IntKind.u8 (0 : Int), Value.int IntKind.u8 (0 : Int), Value.int IntKind.u8 (0 : Int), Value.int IntKind.u8 (2 : Int), Value.int IntKind.u8 (0 : Int), Value.int
  IntKind.u8 (4 : Int), Value.int IntKind.u8 (0 : Int), Value.int IntKind.u8 (0 : Int), Value.int IntKind.u8 (255 : Int), Value.int IntKind.u8 (255 : Int), Value.int
  IntKind.u8 (0 : Int), Value.int IntKind.u8 (6 : Int), Value.int IntKind.u8 (0 : Int), Value.int IntKind.u8 (1 : Int), Value.int IntKind.u8 (0 : Int), Value.int IntKind.u8
  (0 : Int), Value.int IntKind.u8 (0 : Int), Value.int IntKind.u8 (0 : Int), Value.int IntKind.u8 (0 : Int), Value.int IntKind.u8 (4 : Int), Value.int IntKind.u8 (1 : Int),
  Value.int IntKind.u8 (0 : Int), Value.int IntKind.u8 (0 : Int), Value.int IntKind.u8 (0 : Int), Value.int IntKind.u8 (0 : Int)])) /\ ((Plain [Value.int IntKind.u8 (0 :
  Int), Value.int IntKind.u8 (0 : Int), Value.int IntKind.u8 (18 : Int), Value.int IntKind.u8 (4 : Int), Value.int IntKind.u8 (0 : Int), Value.int IntKind.u8 (0 : Int),
  Value.int IntKind.u8 (0 : Int), Value.int IntKind.u8 (0 : Int), Value.int IntKind.u8 (0 : Int), Value.int IntKind.u8 (0 : Int), Value.int IntKind.u8 (3 : Int), Value.int
  IntKind.u8 (0 : Int), Value.int IntKind.u8 (0 : Int), Value.int IntKind.u8 (0 : Int), Value.int IntKind.u8 (2 : Int), Value.int IntKind.u8 (0 : Int), Value.int IntKind.u8
  (4 : Int), Value.int IntKind.u8 (0 : Int), Value.int IntKind.u8 (0 : Int), Value.int IntKind.u8 (255 : Int), Value.int IntKind.u8 (255 : Int), Value.int IntKind.u8 (0 :
  Int), Value.int IntKind.u8 (6 : Int), Value.int IntKind.u8 (0 : Int), Value.int IntKind.u8 (1 : Int), Value.int IntKind.u8 (0 : Int), Value.int IntKind.u8 (0 : Int),
  Value.int IntKind.u8 (0 : Int), Value.int IntKind.u8 (0 : Int), Value.int IntKind.u8 (0 : Int), Value.int IntKind.u8 (4 : Int), Value.int IntKind.u8 (1 : Int), Value.int
  IntKind.u8 (0 : Int), Value.int IntKind.u8 (0 : Int), Value.int IntKind.u8 (0 : Int), Value.int IntKind.u8 (0 : Int)]) /\ ((9 + g.3 = 0 + (9 + Int.toNat (↑g.3 : Int))) /\
  ((0 = 0) /\ (((16384 : Int) = (16384 : Int)) /\ ((ByteArray.mk #[] = ByteArray.mk #[]) /\ (((0 : Int) = (0 : Int)) /\ (((0 : Int) = (0 : Int)) /\ (((0 : Int) = (0 : Int))
  /\ ((Eq (α := List Value) (Value.int IntKind.u8 (↑(UInt8.toNat (by8 (ishr IntKind.i64 (↑g.3 : Int) (16 : Int)))) : Int) :: Value.int IntKind.u8 (↑(UInt8.toNat (by8 (ishr
  IntKind.i64 (↑g.3 : Int) (8 : Int)))) : Int) :: Value.int IntKind.u8 (↑(UInt8.toNat (by8 (↑g.3 : Int))) : Int) :: Value.int IntKind.u8 (0 : Int) :: Value.int IntKind.u8 (0
  : Int) :: Value.int IntKind.u8 (0 : Int) :: Value.int IntKind.u8 (0 : Int) :: Value.int IntKind.u8 (0 : Int) :: Value.int IntKind.u8 (1 : Int) :: List.map bVal ([] ++
  List.replicate g.3 0)) (bCells (yP (Row.mk (List.take ((9 + Int.toNat (↑g.3 : Int)) * 1) (Value.int IntKind.u8 (IntKind.wrap IntKind.u8 (ishr IntKind.i64 (Int.ofNat
  (Int.toNat (↑g.3 : Int))) (16 : Int))) :: Value.int IntKind.u8 (IntKind.wrap IntKind.u8 (ishr IntKind.i64 (Int.ofNat (Int.toNat (↑g.3 : Int))) (8 : Int))) :: Value.int
  IntKind.u8 (IntKind.wrap IntKind.u8 (Int.ofNat (Int.toNat (↑g.3 : Int)))) :: Value.int IntKind.u8 (0 : Int) :: Value.int IntKind.u8 (0 : Int) :: Value.int IntKind.u8 (0 :
  Int) :: Value.int IntKind.u8 (0 : Int) :: Value.int IntKind.u8 (0 : Int) :: Value.int IntKind.u8 (1 : Int) :: ([] ++ List.take (Int.toNat (↑g.3 : Int) * 1) (List.drop 0
  (List.replicate (Int.toNat (↑g.3 : Int)) (Value.int IntKind.u8 (0 : Int))))))) true (Ob.cells true))))) /\ ((Plain (Value.int IntKind.u8 (↑(UInt8.toNat (by8 (ishr
  IntKind.i64 (↑g.3 : Int) (16 : Int)))) : Int) :: Value.int IntKind.u8 (↑(UInt8.toNat (by8 (ishr IntKind.i64 (↑g.3 : Int) (8 : Int)))) : Int) :: Value.int IntKind.u8
  (↑(UInt8.toNat (by8 (↑g.3 : Int))) : Int) :: Value.int IntKind.u8 (0 : Int) :: Value.int IntKind.u8 (0 : Int) :: Value.int IntKind.u8 (0 : Int) :: Value.int IntKind.u8 (0
  : Int) :: Value.int IntKind.u8 (0 : Int) :: Value.int IntKind.u8 (1 : Int) :: List.map bVal ([] ++ List.replicate g.3 0))) /\ ((0 = 0) /\ (((4096 : Int) = (4096 : Int)) /\
  (((65536 : Int) = (65536 : Int)) /\ ((false = false) /\ ((0 = 0) /\ ((false = false) /\ (((0 : Int) = (0 : Int)) /\ ((0 = 0) /\ (((1 : Int) = (1 : Int)) /\ (((1 : Int) =
  (1 : Int)) /\ (((65535 : Int) = (65535 : Int)) /\ ((g.4 - (↑g.3 : Int) = IntKind.wrap IntKind.i64 (g.4 - Int.ofNat (cellN [Value.int IntKind.i64 (0 : Int), Value.int
  IntKind.i64 (0 : Int), Value.int IntKind.i64 (1 : Int), Value.slice (some (Addr.mk (yZ (Row.mk (List.take ((9 + Int.toNat (↑g.3 : Int)) * 1) (Value.int IntKind.u8
  (IntKind.wrap IntKind.u8 (ishr IntKind.i64 (Int.ofNat (Int.toNat (↑g.3 : Int))) (16 : Int))) :: Value.int IntKind.u8 (IntKind.wrap IntKind.u8 (ishr IntKind.i64 (Int.ofNat
  (Int.toNat (↑g.3 : Int))) (8 : Int))) :: Value.int IntKind.u8 (IntKind.wrap IntKind.u8 (Int.ofNat (Int.toNat (↑g.3 : Int)))) :: Value.int IntKind.u8 (0 : Int) :: Value.int
  IntKind.u8 (0 : Int) :: Value.int IntKind.u8 (0 : Int) :: Value.int IntKind.u8 (0 : Int) :: Value.int IntKind.u8 (0 : Int) :: Value.int IntKind.u8 (1 : Int) :: ([] ++
  List.take (Int.toNat (↑g.3 : Int) * 1) (List.drop 0 (List.replicate (Int.toNat (↑g.3 : Int)) (Value.int IntKind.u8 (0 : Int))))))) true (Ob.cells true))) 0 (some 0))) (9 +
  Int.toNat (↑g.3 : Int) - 9) 1] 3))) /\ ((true = true) /\ ((false = false) /\ (((0 : Int) = (0 : Int)) /\ (((4096 : Int) = (4096 : Int)) /\ (((0 : Int) = (0 : Int)) /\
  (((4096 : Int) = (4096 : Int)) /\ True))))))))))))))))))))))))))))))))))))))))))))))))))))))))))))) False)) False) False) False) False))) False) False)) False) False)
  False) False))))))) False) False) False)) False) := by kernel_rfl
theorem eRunsG_ok : EntOk Tryz.prog eRunsG := entC_ok (by
  intro a rows p v news h hp
  split at h <;> simp only [Option.some.injEq, Prod.mk.injEq, reduceCtorEq] at h
  obtain ⟨rfl, rfl, rfl⟩ := h
  exact con_run tk.mixed (n := 1000000) (by kernel_rfl) (by kernel_rfl))
theorem eRigT_ok : EntOk Tryz.prog eRigT := entC_ok (by
  intro a rows p v news h hp
  split at h <;> simp only [Option.some.injEq, Prod.mk.injEq, reduceCtorEq] at h
  obtain ⟨rfl, rfl, rfl⟩ := h
  rename_i t f s n r0
  obtain ⟨⟨x, rfl, rfl⟩, h2⟩ := hp
  have hc := right_con t f s x
  rw [h2] at hc
  rw [List.append_nil]
  exact hc)
theorem ri9_vc (t f s : Int) (l : List UInt8) (x : Bool) : mcall tk.E0 noM 60 59 [frV t f s 0 l.length] ⟨mkR (nums 0 [bRo l]), 1⟩ (retIs 1 (.bool x) [bRo l]) =
  (br (decide (t ≥ (0 : Int))) (br (decide (t < (256 : Int))) (br (decide (f ≥ (0 : Int))) (br (decide (f < (256 : Int))) (br (decide (s ≥ (0 : Int))) (br (decide (s <=
  (2147483647 : Int))) ((x = decide (Int.ofNat (List.length l) <= (16777215 : Int))) /\ ((Eq (α := List Value) (bCells l) (bCells l)) /\ ((Plain (bCells l)) /\ True))) ((x =
  false) /\ ((Eq (α := List Value) (bCells l) (bCells l)) /\ ((Plain (bCells l)) /\ True)))) ((x = false) /\ ((Eq (α := List Value) (bCells l) (bCells l)) /\ ((Plain (bCells
  l)) /\ True)))) ((x = false) /\ ((Eq (α := List Value) (bCells l) (bCells l)) /\ ((Plain (bCells l)) /\ True)))) ((x = false) /\ ((Eq (α := List Value) (bCells l) (bCells
  l)) /\ ((Plain (bCells l)) /\ True)))) ((x = false) /\ ((Eq (α := List Value) (bCells l) (bCells l)) /\ ((Plain (bCells l)) /\ True)))) ((x = false) /\ ((Eq (α := List
  Value) (bCells l) (bCells l)) /\ ((Plain (bCells l)) /\ True)))) := by kernel_rfl
theorem ri9_con (t f s : Int) (l : List UInt8) : Con Tryz.prog 59 [frV t f s 0 l.length] [bRo l] (.bool (rightB t f s l.length)) [bRo l] := by
  refine con_vc (E := tk.E0) tk.mixed (calls_envN _) (lok_envN _) (M := noM) lm_none (ri9_vc t f s l _) ?_
  simp only [ofNat_eq, toNat_cast, Nat.zero_add, Nat.add_zero, Nat.mul_one, List.drop_zero, bCells_len, bCells_drop, bCells_take, bCells_app, bCells_one, bCells_plain, List.length_replicate, List.length_append, List.length_take, List.length_drop, List.take_length, and_true, true_and, and_self, decide_true, List.length_nil, List.length_cons, Nat.sub_zero, dB_mk, dB_ro, List.take_zero]
  unfold rightB
  refine br_if (fun h1 => br_if (fun h2 => br_if (fun h3 => br_if (fun h4 => br_if (fun h5 => br_if (fun h6 => ?_) (fun h6 => ?_)) (fun h5 => ?_)) (fun h4 => ?_)) (fun h3 => ?_)) (fun h2 => ?_)) (fun h1 => ?_)
  · exact decide_eq_decide.2 (by omega)
  all_goals exact decide_eq_false (by omega)
theorem eRi9_ok : EntOk Tryz.prog eRi9 := entC_ok (by
  intro a rows p v news h hp
  split at h <;> simp only [Option.some.injEq, Prod.mk.injEq, reduceCtorEq] at h
  obtain ⟨rfl, rfl, rfl⟩ := h
  rename_i t f s n r0
  obtain ⟨⟨x, rfl, rfl⟩, h2⟩ := hp
  have hc := ri9_con t f s x
  rw [h2] at hc
  rw [List.append_nil]
  exact hc)
theorem eWiG_ok : EntOk Tryz.prog eWiG := entC_ok (by
  intro a rows p v news h hp
  split at h <;> simp only [Option.some.injEq, Prod.mk.injEq, reduceCtorEq] at h
  obtain ⟨rfl, rfl, rfl⟩ := h
  exact Go.Proofs.YtcallecdjebojaaGreat.tk.within_con _ _ _ hp.1 hp.2.1 hp.2.2.1 hp.2.2.2)
theorem tFl_ok : ∀ x ∈ tFl, EntOk Tryz.prog x := all_cons eRunsG_ok (all_cons eWiG_ok (all_cons eRigT_ok (all_cons eRi9_ok (all_cons (eFdD_ok 0 (by decide)) all_nil))))
theorem dD_len (fl K : Nat) : (dD fl K).length = 9 + K := by unfold dD; rw [List.length_append, List.length_replicate]; rfl
theorem row_dD (K : Nat) : List.take (9 + K) (Value.int .u8 (IntKind.u8.wrap (ishr .i64 (K : Int) 16)) :: Value.int .u8 (IntKind.u8.wrap (ishr .i64 (K : Int) 8)) :: Value.int .u8 (IntKind.u8.wrap (K : Int)) :: Value.int .u8 0 :: Value.int .u8 0 :: Value.int .u8 0 :: Value.int .u8 0 :: Value.int .u8 0 :: Value.int .u8 1 :: ([] ++ bCells (List.replicate K 0))) = bCells (dD 0 K) := by
  have e : (Value.int .u8 (IntKind.u8.wrap (ishr .i64 (K : Int) 16)) :: Value.int .u8 (IntKind.u8.wrap (ishr .i64 (K : Int) 8)) :: Value.int .u8 (IntKind.u8.wrap (K : Int)) :: Value.int .u8 0 :: Value.int .u8 0 :: Value.int .u8 0 :: Value.int .u8 0 :: Value.int .u8 0 :: Value.int .u8 1 :: ([] ++ bCells (List.replicate K 0))) = bCells (dD 0 K) := by
    unfold dD
    rw [← bCells_app, ← headC, by8_v, by8_v, by8_v]
    rfl
  rw [e, List.take_of_length_le (by rw [bCells_len, dD_len]; exact Nat.le_refl _)]
theorem rep_z (K : Nat) : List.take K (List.replicate K (Value.int .u8 0)) = bCells (List.replicate K 0) := by
  rw [List.take_of_length_le (by rw [List.length_replicate]; exact Nat.le_refl _), bCells_rep]
theorem yZ_z (fl K : Nat) : yZ ⟨bCells (dD fl K), true, .cells true⟩ = gCode (bCells (List.replicate K 0)) := by
  unfold yZ dD; rw [sealV_eq]; simp only [dB_mk]
  rw [show (9 : Nat) = (headB K 0 fl 1).length from rfl, List.drop_left]
theorem yP_z (fl K : Nat) : yP ⟨bCells (dD fl K), true, .cells true⟩ = dD fl K := by
  unfold yP; rw [sealV_eq]; simp only [dB_mk]
theorem veq_int (n : Nat) (k : IntKind) (a : Int) : veq (n + 1) (.int k a) (.int k a) = true := by simp [veq]
theorem cI0 (z n : Nat) : cellI [.int .i64 0, .int .i64 0, .int .i64 1, .slice (some ⟨z, 0, some 0⟩) n 1] 0 = 0 := rfl
theorem cI1 (z n : Nat) : cellI [.int .i64 0, .int .i64 0, .int .i64 1, .slice (some ⟨z, 0, some 0⟩) n 1] 1 = 0 := rfl
theorem cI2 (z n : Nat) : cellI [.int .i64 0, .int .i64 0, .int .i64 1, .slice (some ⟨z, 0, some 0⟩) n 1] 2 = 1 := rfl
theorem cZ3 (z n : Nat) : cellZ [.int .i64 0, .int .i64 0, .int .i64 1, .slice (some ⟨z, 0, some 0⟩) n 1] 3 = z := rfl
theorem cO3 (z n : Nat) : cellO [.int .i64 0, .int .i64 0, .int .i64 1, .slice (some ⟨z, 0, some 0⟩) n 1] 3 = 0 := rfl
theorem cN3 (z n : Nat) : cellN [.int .i64 0, .int .i64 0, .int .i64 1, .slice (some ⟨z, 0, some 0⟩) n 1] 3 = n := rfl
theorem bG (l : List UInt8) : gAll (bCells l) = true := by
  unfold gAll; rw [List.all_eq_true]; intro v hv
  obtain ⟨b, _, rfl⟩ := List.mem_map.1 hv; rfl
theorem gCb (l : List UInt8) : gCells (gCode (bCells l)) = bCells l := gCells_code (bG l)
theorem veq_ag1 (n : Nat) (w : Int) : veq (n + 2) (.agg ⟨[.int .i64 w]⟩) (.agg ⟨[.int .i64 w]⟩) = true := by simp [veq]
theorem veq_ev (n : Nat) (t : ByteArray) (b : Bool) : veq (n + 2) (.agg ⟨[.int .i64 3, .int .i64 1, .slice none 0 0, .string t, .bool b, .int .i64 0]⟩) (.agg ⟨[.int .i64 3, .int .i64 1, .slice none 0 0, .string t, .bool b, .int .i64 0]⟩) = true := by simp [veq]
theorem fr_pl (z n : Nat) : Plain [.int .i64 0, .int .i64 0, .int .i64 1, .slice (some ⟨z, 0, some 0⟩) n 1] := by
  intro v hv
  simp only [List.mem_cons, List.not_mem_nil, or_false] at hv
  rcases hv with rfl | rfl | rfl | rfl <;> rfl
theorem E_piece : PieceOk EFr 0 (10, p8, spec8) := by
  refine piece_code tk.mixed (cut_calls (calls_envTc tFl_ok)) cut_lok lm_none (n := 400) (fun g hg => ?_)
  refine (E_round g).mpr ?_
  obtain ⟨o, n, K, w, x, k⟩ := g
  obtain ⟨h1, h2, h3, h4, h5, h6⟩ := hg
  simp only at h1 h2 h3 h4 h5 h6
  have w0 : IntKind.i64.wrap ((K : Int) - 0) = (K : Int) := by rw [wr64_id (by unfold I64; omega)]; omega
  have t0 : List.take K (List.replicate K (0 : UInt8)) = List.replicate K 0 := List.take_of_length_le (by rw [List.length_replicate]; exact Nat.le_refl _)
  have hR : rightB 0 0 1 K = true := by unfold rightB; exact decide_eq_true (by omega)
  have hB : IsB ⟨bCells (List.replicate K 0), true, .cells true⟩ K := isB_mk _ _ (by rw [List.length_replicate])
  have p36 : Plain quB.cells := fun v hv => by
    have : v ∈ bCells quL := hv
    exact bCells_plain _ v this
  unfold quB at p36
  simp only [ofNat_eq, toNat_cast, Nat.zero_add, Nat.add_zero, Nat.mul_one, List.drop_zero, bCells_len, bCells_drop, bCells_take, bCells_app, bCells_one, bCells_plain, List.length_replicate, List.length_append, List.length_take, List.length_drop, List.take_length, and_true, true_and, and_self, decide_true, List.length_nil, List.length_cons, Nat.sub_zero, dB_mk, dB_ro, List.take_zero, Int.toNat_natCast, row_dD, rep_z, yZ_z, yP_z, cI0, cI1, cI2, cZ3, cO3, cN3, gCb, Nat.add_sub_cancel_left, w0, t0, hR, hB, veq_int, veq_ag1, p36, veq_ev]
  have hD : HdR 0 ⟨bCells (dD 0 K), true, .cells true⟩ (9 + K) := ⟨List.replicate K 0, by unfold dD; rw [List.length_replicate]; rfl, by rw [List.length_replicate], by rw [List.length_replicate]; omega⟩
  have pD := bCells_plain (dD 0 K)
  refine br_dec (by omega) ⟨Nat.le_refl _, br_dec (Nat.le_refl _) (br_b rfl (br_dec (by omega) ⟨⟨by omega, fr_pl _ _, ⟨x, rfl, h5, by omega⟩, hD⟩, ⟨Nat.le_refl _, br_dec (by omega) (br_dec (by omega) (br_b rfl (br_dec (by omega) (br_nd (by omega) (br_b rfl (br_b rfl (br_nd (by omega) (br_nd (by omega) (br_b rfl (br_b rfl ?_))))))))))⟩⟩))⟩
  have e1 : IntKind.i64.wrap ((n : Int) + (K : Int)) = ((n + K : Nat) : Int) := by rw [wr64_id (by unfold I64; omega)]; omega
  have e2 : IntKind.i64.wrap (w - (K : Int)) = w - (K : Int) := wr64_id (by unfold I64; omega)
  have e3 : IntKind.i64.wrap ((K : Int) - (K : Int)) = 0 := by rw [Int.sub_self]; rfl
  rw [e1, e2, e3]
  exact br_b rfl (br_dec (Nat.le_refl _) ⟨fun v hv => by obtain ⟨b, _, rfl⟩ := List.mem_map.1 hv; exact ⟨_, rfl⟩, br_b rfl ⟨(), rfl, rfl, rfl, pD, rfl⟩⟩)
end Go.Proofs.YtcallecdjebojaaGreat.cg
