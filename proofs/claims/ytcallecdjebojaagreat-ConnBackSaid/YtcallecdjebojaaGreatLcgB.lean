/- ConnBack: DATA on a stream that isn't there any more, and padding, is given back at once. -/
import Derived.Test.YtcallecdjebojaaGreatSz9
import Derived.Test.YtcallecdjebojaaGreatRows
import Derived.Test.YtcallecdjebojaaGreatLcgO
set_option maxRecDepth 20000
set_option linter.unusedSimpArgs false
set_option linter.unusedVariables false
namespace Go.Proofs.YtcallecdjebojaaGreat.cg
open Go Go.Ev Go.Sy Go.RowKit Go.Proofs.YtcallecdjebojaaGreat.gl Go.Proofs.YtcallecdjebojaaGreat.tk Go.Proofs.YtcallecdjebojaaGreat.cp Go.Proofs.YtcallecdjebojaaGreat.s9 Go.Proofs.YtcallecdjebojaaGreat.fd Go.Proofs.YtcallecdjebojaaGreat.fe Go.Proofs.YtcallecdjebojaaGreat.cu
noncomputable def tBb : List EntM := [eBg, eRunsG, eWiG]
noncomputable abbrev EBb : Env := envTc Tryz.prog tBb
noncomputable def tBk : List EntM := [eRunsG, eRigT, eRi9, eFdD 8, eOuQ]
noncomputable abbrev EBk : Env := envCut (envTc Tryz.prog tBk) [50, 85, 81]
def pB : List Nat := [0, 1, 0, 1, 1, 1, 1, 1]
def pY : List Nat := [1, 0, 0, 1, 0, 0, 1, 0, 1, 1, 1, 1, 1]
def cnK (qk qn : Nat) : Row := ⟨[.bool true, .int .i64 2, .int .i64 65535, .int .i64 65536, .int .i64 4096, .int .i64 2147483647, .int .i64 65535, .int .i64 16384, .int .i64 2147483647, .slice (some ⟨1, qk, none⟩) qn 1, .pointer (some ⟨2, 0, none⟩), .pointer (some ⟨4, 0, none⟩), .pointer (some ⟨5, 0, none⟩), .int .i64 65535, .int .i64 65535, .slice none 0 0, .slice (some ⟨6, 0, none⟩) 1 1, .int .i64 1, .int .i64 1, .bool true, .bool false, .bool false, .bool false, .bool false, .int .i64 0, .slice none 0 0, .bool false, .slice none 0 0], false, .cells false⟩
structure BS where
  i : Nat
  q : List UInt8
  qk : Nat
  qn : Nat
  x : List UInt8
  k : Nat
def slB (b : UInt8) (i : Nat) : List (Nat × Value) := [(1, .int .u8 b.toNat), (5, .pointer (some ⟨0, 0, none⟩)), (6, .int .i64 (i : Nat))]
noncomputable def rlB (q : List UInt8) (qk qn : Nat) (x : List UInt8) (k : Nat) : List (Nat × Row) := [(0, cnK qk qn), (1, bOwn q), (2, cp.rdB 3 k 0), (3, bOwn x), (4, unB 7), (5, pkB 8), (6, ⟨[.int .i64 1], false, .cells true⟩), (7, tbB), (8, tbB)]
structure GY where
  b : UInt8
  i : Nat
  q : List UInt8
  qk : Nat
  qn : Nat
  x : List UInt8
  k : Nat
  p : List UInt8
  n : Nat
def slY (g : GY) : List (Nat × Value) := slB g.b g.i ++ [(7, .pointer (some ⟨9, 0, none⟩))]
noncomputable def rlY (g : GY) : List (Nat × Row) := rlB g.q g.qk g.qn g.x g.k ++ [(9, ⟨[.int .i64 0, .int .i64 8, .int .i64 1, .slice (some ⟨10, 0, none⟩) g.n 1], false, .cells false⟩), (10, bOwn g.p)]
def wuB (n : Nat) : List UInt8 := [0, 0, 4, 8, 0, 0, 0, 0, 0, by8 (ishr .i64 (n : Int) 24), by8 (ishr .i64 (n : Int) 16), by8 (ishr .i64 (n : Int) 8), by8 (n : Int)]
def hB (fl : Nat) (p : List UInt8) : List UInt8 := headB p.length 0 fl 1 ++ p
noncomputable def wsY (g : GY) : List (Gate Unit) := [⟨.normal, fun _ => True, fun _ => slB g.b g.i, fun _ => rlB ((g.q.drop g.qk).take g.qn ++ wuB g.n) (g.qn + 13) 0 (hB 8 g.p) (9 + g.n), 9⟩]
def PreY (g : GY) : Prop := g.p = g.b :: List.replicate 16000 0 ∧ g.n = 16001 ∧ g.qk + g.qn = g.q.length ∧ g.qn ≤ 13 ∧ g.x.length = g.k ∧ g.k ≤ 20000
noncomputable def specY : Sy.Spec := specOf 0 11 48 PreY slY rlY wsY
noncomputable def mY := mOf [(9, pY, specY)]
def okBS (s : BS) : Prop := s.qk + s.qn = s.q.length ∧ s.qn ≤ 13 ∧ s.x.length = s.k ∧ s.k ≤ 20000
noncomputable def wsB (_ : UInt8 × Int) : List (Gate BS) := [⟨.exit 0, okBS, fun _ => [(5, .pointer (some ⟨0, 0, none⟩))], fun s => rlB s.q s.qk s.qn s.x s.k, 9⟩]
def rsL : List UInt8 := [0, 0, 4, 3, 0, 0, 0, 0, 1, 0, 0, 0, 8]
def hdL : List UInt8 := [0, 0, 1, 1, 4, 0, 0, 0, 1, 130]
noncomputable def specB : Sy.Spec := specOf 0 9 48 (fun g : UInt8 × Int => 1 ≤ g.2 ∧ g.2 ≤ 20) (fun g => slB g.1 g.2.toNat) (fun _ => rlB rsL 0 13 hdL 10) wsB
noncomputable def mB := mOf [(9, pB, specB)]
set_option maxHeartbeats 4000000 in
theorem Y_vc (g : GY) : mev EBk noM 400 9 pY false (codeOf Tryz.prog 9 pY) ⟨mkOv (slY g), 48, []⟩ none ⟨mkR (rlY g), 11⟩ (Sy.endsIn 0 48 (wsY g)) =
  (((((True /\ (True /\ (True /\ ((0 + g.9 * 1 <= List.length (bCells g.8) /\ Plain (List.take (g.9 * 1) (List.drop 0 (bCells g.8)))) /\ True)))) /\ True) /\ ((True /\ True)
  /\ (True /\ (IsB (Row.mk (List.take (g.9 * 1) (List.drop 0 (bCells g.8))) true (Ob.cells true)) g.9 /\ rightB (0 : Int) (8 : Int) (1 : Int) g.9 = true))))) /\ (br (decide
  (0 + g.9 * 1 <= List.length (bCells g.8))) (br (allOne (List.take (g.9 * 1) (List.drop 0 (bCells g.8)))) (br (decide (9 + g.9 <= 16777216)) ((((True /\ ((0 + (9 + g.9) * 1
  <= List.length (Value.int IntKind.u8 (IntKind.wrap IntKind.u8 (ishr IntKind.i64 (Int.ofNat g.9) (16 : Int))) :: Value.int IntKind.u8 (IntKind.wrap IntKind.u8 (ishr
  IntKind.i64 (Int.ofNat g.9) (8 : Int))) :: Value.int IntKind.u8 (IntKind.wrap IntKind.u8 (Int.ofNat g.9)) :: Value.int IntKind.u8 (0 : Int) :: Value.int IntKind.u8 (8 :
  Int) :: Value.int IntKind.u8 (0 : Int) :: Value.int IntKind.u8 (0 : Int) :: Value.int IntKind.u8 (0 : Int) :: Value.int IntKind.u8 (1 : Int) :: ([] ++ List.take (g.9 * 1)
  (List.drop 0 (bCells g.8)))) /\ Plain (List.take ((9 + g.9) * 1) (Value.int IntKind.u8 (IntKind.wrap IntKind.u8 (ishr IntKind.i64 (Int.ofNat g.9) (16 : Int))) :: Value.int
  IntKind.u8 (IntKind.wrap IntKind.u8 (ishr IntKind.i64 (Int.ofNat g.9) (8 : Int))) :: Value.int IntKind.u8 (IntKind.wrap IntKind.u8 (Int.ofNat g.9)) :: Value.int IntKind.u8
  (0 : Int) :: Value.int IntKind.u8 (8 : Int) :: Value.int IntKind.u8 (0 : Int) :: Value.int IntKind.u8 (0 : Int) :: Value.int IntKind.u8 (0 : Int) :: Value.int IntKind.u8
  (1 : Int) :: ([] ++ List.take (g.9 * 1) (List.drop 0 (bCells g.8)))))) /\ True)) /\ (((True /\ (True /\ (True /\ (True /\ (True /\ (True /\ True)))))) /\ (True /\ (Plain
  (bCells g.6) /\ True))) /\ ((Plain (bCells (yP (Row.mk (List.take ((9 + g.9) * 1) (Value.int IntKind.u8 (IntKind.wrap IntKind.u8 (ishr IntKind.i64 (Int.ofNat g.9) (16 :
  Int))) :: Value.int IntKind.u8 (IntKind.wrap IntKind.u8 (ishr IntKind.i64 (Int.ofNat g.9) (8 : Int))) :: Value.int IntKind.u8 (IntKind.wrap IntKind.u8 (Int.ofNat g.9)) ::
  Value.int IntKind.u8 (0 : Int) :: Value.int IntKind.u8 (8 : Int) :: Value.int IntKind.u8 (0 : Int) :: Value.int IntKind.u8 (0 : Int) :: Value.int IntKind.u8 (0 : Int) ::
  Value.int IntKind.u8 (1 : Int) :: ([] ++ List.take (g.9 * 1) (List.drop 0 (bCells g.8))))) true (Ob.cells true)))) /\ (Plain [Value.int IntKind.i64 (0 : Int), Value.int
  IntKind.i64 (8 : Int), Value.int IntKind.i64 (1 : Int), Value.slice (some (Addr.mk (yZ (Row.mk (List.take ((9 + g.9) * 1) (Value.int IntKind.u8 (IntKind.wrap IntKind.u8
  (ishr IntKind.i64 (Int.ofNat g.9) (16 : Int))) :: Value.int IntKind.u8 (IntKind.wrap IntKind.u8 (ishr IntKind.i64 (Int.ofNat g.9) (8 : Int))) :: Value.int IntKind.u8
  (IntKind.wrap IntKind.u8 (Int.ofNat g.9)) :: Value.int IntKind.u8 (0 : Int) :: Value.int IntKind.u8 (8 : Int) :: Value.int IntKind.u8 (0 : Int) :: Value.int IntKind.u8 (0
  : Int) :: Value.int IntKind.u8 (0 : Int) :: Value.int IntKind.u8 (1 : Int) :: ([] ++ List.take (g.9 * 1) (List.drop 0 (bCells g.8))))) true (Ob.cells true))) 0 (some 0)))
  (9 + g.9 - 9) 1] /\ True)) /\ (0 = 0 /\ ((16384 : Int) = (16384 : Int) /\ (ByteArray.mk #[] = ByteArray.mk #[] /\ ((0 : Int) = (0 : Int) /\ ((0 : Int) = (0 : Int) /\ (IsO
  (Row.mk (bCells g.6) false (Ob.cells true)) g.7 /\ HdR 8 (Row.mk (List.take ((9 + g.9) * 1) (Value.int IntKind.u8 (IntKind.wrap IntKind.u8 (ishr IntKind.i64 (Int.ofNat
  g.9) (16 : Int))) :: Value.int IntKind.u8 (IntKind.wrap IntKind.u8 (ishr IntKind.i64 (Int.ofNat g.9) (8 : Int))) :: Value.int IntKind.u8 (IntKind.wrap IntKind.u8
  (Int.ofNat g.9)) :: Value.int IntKind.u8 (0 : Int) :: Value.int IntKind.u8 (8 : Int) :: Value.int IntKind.u8 (0 : Int) :: Value.int IntKind.u8 (0 : Int) :: Value.int
  IntKind.u8 (0 : Int) :: Value.int IntKind.u8 (1 : Int) :: ([] ++ List.take (g.9 * 1) (List.drop 0 (bCells g.8))))) true (Ob.cells true)) (9 + g.9))))))))))) /\ ((Eq (α :=
  Option Value) (some (Value.int IntKind.i64 (0 : Int))) (some (Value.int IntKind.i64 (cellI [Value.int IntKind.i64 (0 : Int), Value.int IntKind.i64 (8 : Int), Value.int
  IntKind.i64 (1 : Int), Value.slice (some (Addr.mk (yZ (Row.mk (List.take ((9 + g.9) * 1) (Value.int IntKind.u8 (IntKind.wrap IntKind.u8 (ishr IntKind.i64 (Int.ofNat g.9)
  (16 : Int))) :: Value.int IntKind.u8 (IntKind.wrap IntKind.u8 (ishr IntKind.i64 (Int.ofNat g.9) (8 : Int))) :: Value.int IntKind.u8 (IntKind.wrap IntKind.u8 (Int.ofNat
  g.9)) :: Value.int IntKind.u8 (0 : Int) :: Value.int IntKind.u8 (8 : Int) :: Value.int IntKind.u8 (0 : Int) :: Value.int IntKind.u8 (0 : Int) :: Value.int IntKind.u8 (0 :
  Int) :: Value.int IntKind.u8 (1 : Int) :: ([] ++ List.take (g.9 * 1) (List.drop 0 (bCells g.8))))) true (Ob.cells true))) 0 (some 0))) (9 + g.9 - 9) 1] 0)))) /\ ((Eq (α :=
  Option Value) (some (Value.int IntKind.i64 (8 : Int))) (some (Value.int IntKind.i64 (cellI [Value.int IntKind.i64 (0 : Int), Value.int IntKind.i64 (8 : Int), Value.int
  IntKind.i64 (1 : Int), Value.slice (some (Addr.mk (yZ (Row.mk (List.take ((9 + g.9) * 1) (Value.int IntKind.u8 (IntKind.wrap IntKind.u8 (ishr IntKind.i64 (Int.ofNat g.9)
  (16 : Int))) :: Value.int IntKind.u8 (IntKind.wrap IntKind.u8 (ishr IntKind.i64 (Int.ofNat g.9) (8 : Int))) :: Value.int IntKind.u8 (IntKind.wrap IntKind.u8 (Int.ofNat
  g.9)) :: Value.int IntKind.u8 (0 : Int) :: Value.int IntKind.u8 (8 : Int) :: Value.int IntKind.u8 (0 : Int) :: Value.int IntKind.u8 (0 : Int) :: Value.int IntKind.u8 (0 :
  Int) :: Value.int IntKind.u8 (1 : Int) :: ([] ++ List.take (g.9 * 1) (List.drop 0 (bCells g.8))))) true (Ob.cells true))) 0 (some 0))) (9 + g.9 - 9) 1] 1)))) /\ ((Eq (α :=
  Option Value) (some (Value.int IntKind.i64 (1 : Int))) (some (Value.int IntKind.i64 (cellI [Value.int IntKind.i64 (0 : Int), Value.int IntKind.i64 (8 : Int), Value.int
  IntKind.i64 (1 : Int), Value.slice (some (Addr.mk (yZ (Row.mk (List.take ((9 + g.9) * 1) (Value.int IntKind.u8 (IntKind.wrap IntKind.u8 (ishr IntKind.i64 (Int.ofNat g.9)
  (16 : Int))) :: Value.int IntKind.u8 (IntKind.wrap IntKind.u8 (ishr IntKind.i64 (Int.ofNat g.9) (8 : Int))) :: Value.int IntKind.u8 (IntKind.wrap IntKind.u8 (Int.ofNat
  g.9)) :: Value.int IntKind.u8 (0 : Int) :: Value.int IntKind.u8 (8 : Int) :: Value.int IntKind.u8 (0 : Int) :: Value.int IntKind.u8 (0 : Int) :: Value.int IntKind.u8 (0 :
  Int) :: Value.int IntKind.u8 (1 : Int) :: ([] ++ List.take (g.9 * 1) (List.drop 0 (bCells g.8))))) true (Ob.cells true))) 0 (some 0))) (9 + g.9 - 9) 1] 2)))) /\ ((Eq (α :=
  Option Value) (some (Value.slice (some (Addr.mk (yZ (Row.mk (List.take ((9 + g.9) * 1) (Value.int IntKind.u8 (IntKind.wrap IntKind.u8 (ishr IntKind.i64 (Int.ofNat g.9) (16
  : Int))) :: Value.int IntKind.u8 (IntKind.wrap IntKind.u8 (ishr IntKind.i64 (Int.ofNat g.9) (8 : Int))) :: Value.int IntKind.u8 (IntKind.wrap IntKind.u8 (Int.ofNat g.9))
  :: Value.int IntKind.u8 (0 : Int) :: Value.int IntKind.u8 (8 : Int) :: Value.int IntKind.u8 (0 : Int) :: Value.int IntKind.u8 (0 : Int) :: Value.int IntKind.u8 (0 : Int)
  :: Value.int IntKind.u8 (1 : Int) :: ([] ++ List.take (g.9 * 1) (List.drop 0 (bCells g.8))))) true (Ob.cells true))) 0 (some 0))) (9 + g.9 - 9) 1)) (some (Value.slice
  (some (Addr.mk (cellZ [Value.int IntKind.i64 (0 : Int), Value.int IntKind.i64 (8 : Int), Value.int IntKind.i64 (1 : Int), Value.slice (some (Addr.mk (yZ (Row.mk (List.take
  ((9 + g.9) * 1) (Value.int IntKind.u8 (IntKind.wrap IntKind.u8 (ishr IntKind.i64 (Int.ofNat g.9) (16 : Int))) :: Value.int IntKind.u8 (IntKind.wrap IntKind.u8 (ishr
  IntKind.i64 (Int.ofNat g.9) (8 : Int))) :: Value.int IntKind.u8 (IntKind.wrap IntKind.u8 (Int.ofNat g.9)) :: Value.int IntKind.u8 (0 : Int) :: Value.int IntKind.u8 (8 :
  Int) :: Value.int IntKind.u8 (0 : Int) :: Value.int IntKind.u8 (0 : Int) :: Value.int IntKind.u8 (0 : Int) :: Value.int IntKind.u8 (1 : Int) :: ([] ++ List.take (g.9 * 1)
  (List.drop 0 (bCells g.8))))) true (Ob.cells true))) 0 (some 0))) (9 + g.9 - 9) 1] 3) (cellO [Value.int IntKind.i64 (0 : Int), Value.int IntKind.i64 (8 : Int), Value.int
  IntKind.i64 (1 : Int), Value.slice (some (Addr.mk (yZ (Row.mk (List.take ((9 + g.9) * 1) (Value.int IntKind.u8 (IntKind.wrap IntKind.u8 (ishr IntKind.i64 (Int.ofNat g.9)
  (16 : Int))) :: Value.int IntKind.u8 (IntKind.wrap IntKind.u8 (ishr IntKind.i64 (Int.ofNat g.9) (8 : Int))) :: Value.int IntKind.u8 (IntKind.wrap IntKind.u8 (Int.ofNat
  g.9)) :: Value.int IntKind.u8 (0 : Int) :: Value.int IntKind.u8 (8 : Int) :: Value.int IntKind.u8 (0 : Int) :: Value.int IntKind.u8 (0 : Int) :: Value.int IntKind.u8 (0 :
  Int) :: Value.int IntKind.u8 (1 : Int) :: ([] ++ List.take (g.9 * 1) (List.drop 0 (bCells g.8))))) true (Ob.cells true))) 0 (some 0))) (9 + g.9 - 9) 1] 3) (some 0)))
  (cellN [Value.int IntKind.i64 (0 : Int), Value.int IntKind.i64 (8 : Int), Value.int IntKind.i64 (1 : Int), Value.slice (some (Addr.mk (yZ (Row.mk (List.take ((9 + g.9) *
  1) (Value.int IntKind.u8 (IntKind.wrap IntKind.u8 (ishr IntKind.i64 (Int.ofNat g.9) (16 : Int))) :: Value.int IntKind.u8 (IntKind.wrap IntKind.u8 (ishr IntKind.i64
  (Int.ofNat g.9) (8 : Int))) :: Value.int IntKind.u8 (IntKind.wrap IntKind.u8 (Int.ofNat g.9)) :: Value.int IntKind.u8 (0 : Int) :: Value.int IntKind.u8 (8 : Int) ::
  Value.int IntKind.u8 (0 : Int) :: Value.int IntKind.u8 (0 : Int) :: Value.int IntKind.u8 (0 : Int) :: Value.int IntKind.u8 (1 : Int) :: ([] ++ List.take (g.9 * 1)
  (List.drop 0 (bCells g.8))))) true (Ob.cells true))) 0 (some 0))) (9 + g.9 - 9) 1] 3) 1))) /\ (((((True /\ (True /\ (True /\ (cellO [Value.int IntKind.i64 (0 : Int),
  Value.int IntKind.i64 (8 : Int), Value.int IntKind.i64 (1 : Int), Value.slice (some (Addr.mk (yZ (Row.mk (List.take ((9 + g.9) * 1) (Value.int IntKind.u8 (IntKind.wrap
  IntKind.u8 (ishr IntKind.i64 (Int.ofNat g.9) (16 : Int))) :: Value.int IntKind.u8 (IntKind.wrap IntKind.u8 (ishr IntKind.i64 (Int.ofNat g.9) (8 : Int))) :: Value.int
  IntKind.u8 (IntKind.wrap IntKind.u8 (Int.ofNat g.9)) :: Value.int IntKind.u8 (0 : Int) :: Value.int IntKind.u8 (8 : Int) :: Value.int IntKind.u8 (0 : Int) :: Value.int
  IntKind.u8 (0 : Int) :: Value.int IntKind.u8 (0 : Int) :: Value.int IntKind.u8 (1 : Int) :: ([] ++ List.take (g.9 * 1) (List.drop 0 (bCells g.8))))) true (Ob.cells true)))
  0 (some 0))) (9 + g.9 - 9) 1] 3 + cellN [Value.int IntKind.i64 (0 : Int), Value.int IntKind.i64 (8 : Int), Value.int IntKind.i64 (1 : Int), Value.slice (some (Addr.mk (yZ
  (Row.mk (List.take ((9 + g.9) * 1) (Value.int IntKind.u8 (IntKind.wrap IntKind.u8 (ishr IntKind.i64 (Int.ofNat g.9) (16 : Int))) :: Value.int IntKind.u8 (IntKind.wrap
  IntKind.u8 (ishr IntKind.i64 (Int.ofNat g.9) (8 : Int))) :: Value.int IntKind.u8 (IntKind.wrap IntKind.u8 (Int.ofNat g.9)) :: Value.int IntKind.u8 (0 : Int) :: Value.int
  IntKind.u8 (8 : Int) :: Value.int IntKind.u8 (0 : Int) :: Value.int IntKind.u8 (0 : Int) :: Value.int IntKind.u8 (0 : Int) :: Value.int IntKind.u8 (1 : Int) :: ([] ++
  List.take (g.9 * 1) (List.drop 0 (bCells g.8))))) true (Ob.cells true))) 0 (some 0))) (9 + g.9 - 9) 1] 3 * 1 <= List.length (gCells (cellZ [Value.int IntKind.i64 (0 :
  Int), Value.int IntKind.i64 (8 : Int), Value.int IntKind.i64 (1 : Int), Value.slice (some (Addr.mk (yZ (Row.mk (List.take ((9 + g.9) * 1) (Value.int IntKind.u8
  (IntKind.wrap IntKind.u8 (ishr IntKind.i64 (Int.ofNat g.9) (16 : Int))) :: Value.int IntKind.u8 (IntKind.wrap IntKind.u8 (ishr IntKind.i64 (Int.ofNat g.9) (8 : Int))) ::
  Value.int IntKind.u8 (IntKind.wrap IntKind.u8 (Int.ofNat g.9)) :: Value.int IntKind.u8 (0 : Int) :: Value.int IntKind.u8 (8 : Int) :: Value.int IntKind.u8 (0 : Int) ::
  Value.int IntKind.u8 (0 : Int) :: Value.int IntKind.u8 (0 : Int) :: Value.int IntKind.u8 (1 : Int) :: ([] ++ List.take (g.9 * 1) (List.drop 0 (bCells g.8))))) true
  (Ob.cells true))) 0 (some 0))) (9 + g.9 - 9) 1] 3)) /\ True)))) /\ True) /\ ((True /\ True) /\ (True /\ (IsB (Row.mk (List.take (cellN [Value.int IntKind.i64 (0 : Int),
  Value.int IntKind.i64 (8 : Int), Value.int IntKind.i64 (1 : Int), Value.slice (some (Addr.mk (yZ (Row.mk (List.take ((9 + g.9) * 1) (Value.int IntKind.u8 (IntKind.wrap
  IntKind.u8 (ishr IntKind.i64 (Int.ofNat g.9) (16 : Int))) :: Value.int IntKind.u8 (IntKind.wrap IntKind.u8 (ishr IntKind.i64 (Int.ofNat g.9) (8 : Int))) :: Value.int
  IntKind.u8 (IntKind.wrap IntKind.u8 (Int.ofNat g.9)) :: Value.int IntKind.u8 (0 : Int) :: Value.int IntKind.u8 (8 : Int) :: Value.int IntKind.u8 (0 : Int) :: Value.int
  IntKind.u8 (0 : Int) :: Value.int IntKind.u8 (0 : Int) :: Value.int IntKind.u8 (1 : Int) :: ([] ++ List.take (g.9 * 1) (List.drop 0 (bCells g.8))))) true (Ob.cells true)))
  0 (some 0))) (9 + g.9 - 9) 1] 3 * 1) (List.drop (cellO [Value.int IntKind.i64 (0 : Int), Value.int IntKind.i64 (8 : Int), Value.int IntKind.i64 (1 : Int), Value.slice
  (some (Addr.mk (yZ (Row.mk (List.take ((9 + g.9) * 1) (Value.int IntKind.u8 (IntKind.wrap IntKind.u8 (ishr IntKind.i64 (Int.ofNat g.9) (16 : Int))) :: Value.int IntKind.u8
  (IntKind.wrap IntKind.u8 (ishr IntKind.i64 (Int.ofNat g.9) (8 : Int))) :: Value.int IntKind.u8 (IntKind.wrap IntKind.u8 (Int.ofNat g.9)) :: Value.int IntKind.u8 (0 : Int)
  :: Value.int IntKind.u8 (8 : Int) :: Value.int IntKind.u8 (0 : Int) :: Value.int IntKind.u8 (0 : Int) :: Value.int IntKind.u8 (0 : Int) :: Value.int IntKind.u8 (1 : Int)
  :: ([] ++ List.take (g.9 * 1) (List.drop 0 (bCells g.8))))) true (Ob.cells true))) 0 (some 0))) (9 + g.9 - 9) 1] 3) (gCells (cellZ [Value.int IntKind.i64 (0 : Int),
  Value.int IntKind.i64 (8 : Int), Value.int IntKind.i64 (1 : Int), Value.slice (some (Addr.mk (yZ (Row.mk (List.take ((9 + g.9) * 1) (Value.int IntKind.u8 (IntKind.wrap
  IntKind.u8 (ishr IntKind.i64 (Int.ofNat g.9) (16 : Int))) :: Value.int IntKind.u8 (IntKind.wrap IntKind.u8 (ishr IntKind.i64 (Int.ofNat g.9) (8 : Int))) :: Value.int
  IntKind.u8 (IntKind.wrap IntKind.u8 (Int.ofNat g.9)) :: Value.int IntKind.u8 (0 : Int) :: Value.int IntKind.u8 (8 : Int) :: Value.int IntKind.u8 (0 : Int) :: Value.int
  IntKind.u8 (0 : Int) :: Value.int IntKind.u8 (0 : Int) :: Value.int IntKind.u8 (1 : Int) :: ([] ++ List.take (g.9 * 1) (List.drop 0 (bCells g.8))))) true (Ob.cells true)))
  0 (some 0))) (9 + g.9 - 9) 1] 3)))) true (Ob.cells true)) (cellN [Value.int IntKind.i64 (0 : Int), Value.int IntKind.i64 (8 : Int), Value.int IntKind.i64 (1 : Int),
  Value.slice (some (Addr.mk (yZ (Row.mk (List.take ((9 + g.9) * 1) (Value.int IntKind.u8 (IntKind.wrap IntKind.u8 (ishr IntKind.i64 (Int.ofNat g.9) (16 : Int))) ::
  Value.int IntKind.u8 (IntKind.wrap IntKind.u8 (ishr IntKind.i64 (Int.ofNat g.9) (8 : Int))) :: Value.int IntKind.u8 (IntKind.wrap IntKind.u8 (Int.ofNat g.9)) :: Value.int
  IntKind.u8 (0 : Int) :: Value.int IntKind.u8 (8 : Int) :: Value.int IntKind.u8 (0 : Int) :: Value.int IntKind.u8 (0 : Int) :: Value.int IntKind.u8 (0 : Int) :: Value.int
  IntKind.u8 (1 : Int) :: ([] ++ List.take (g.9 * 1) (List.drop 0 (bCells g.8))))) true (Ob.cells true))) 0 (some 0))) (9 + g.9 - 9) 1] 3) /\ rightB (cellI [Value.int
  IntKind.i64 (0 : Int), Value.int IntKind.i64 (8 : Int), Value.int IntKind.i64 (1 : Int), Value.slice (some (Addr.mk (yZ (Row.mk (List.take ((9 + g.9) * 1) (Value.int
  IntKind.u8 (IntKind.wrap IntKind.u8 (ishr IntKind.i64 (Int.ofNat g.9) (16 : Int))) :: Value.int IntKind.u8 (IntKind.wrap IntKind.u8 (ishr IntKind.i64 (Int.ofNat g.9) (8 :
  Int))) :: Value.int IntKind.u8 (IntKind.wrap IntKind.u8 (Int.ofNat g.9)) :: Value.int IntKind.u8 (0 : Int) :: Value.int IntKind.u8 (8 : Int) :: Value.int IntKind.u8 (0 :
  Int) :: Value.int IntKind.u8 (0 : Int) :: Value.int IntKind.u8 (0 : Int) :: Value.int IntKind.u8 (1 : Int) :: ([] ++ List.take (g.9 * 1) (List.drop 0 (bCells g.8))))) true
  (Ob.cells true))) 0 (some 0))) (9 + g.9 - 9) 1] 0) (cellI [Value.int IntKind.i64 (0 : Int), Value.int IntKind.i64 (8 : Int), Value.int IntKind.i64 (1 : Int), Value.slice
  (some (Addr.mk (yZ (Row.mk (List.take ((9 + g.9) * 1) (Value.int IntKind.u8 (IntKind.wrap IntKind.u8 (ishr IntKind.i64 (Int.ofNat g.9) (16 : Int))) :: Value.int IntKind.u8
  (IntKind.wrap IntKind.u8 (ishr IntKind.i64 (Int.ofNat g.9) (8 : Int))) :: Value.int IntKind.u8 (IntKind.wrap IntKind.u8 (Int.ofNat g.9)) :: Value.int IntKind.u8 (0 : Int)
  :: Value.int IntKind.u8 (8 : Int) :: Value.int IntKind.u8 (0 : Int) :: Value.int IntKind.u8 (0 : Int) :: Value.int IntKind.u8 (0 : Int) :: Value.int IntKind.u8 (1 : Int)
  :: ([] ++ List.take (g.9 * 1) (List.drop 0 (bCells g.8))))) true (Ob.cells true))) 0 (some 0))) (9 + g.9 - 9) 1] 1) (cellI [Value.int IntKind.i64 (0 : Int), Value.int
  IntKind.i64 (8 : Int), Value.int IntKind.i64 (1 : Int), Value.slice (some (Addr.mk (yZ (Row.mk (List.take ((9 + g.9) * 1) (Value.int IntKind.u8 (IntKind.wrap IntKind.u8
  (ishr IntKind.i64 (Int.ofNat g.9) (16 : Int))) :: Value.int IntKind.u8 (IntKind.wrap IntKind.u8 (ishr IntKind.i64 (Int.ofNat g.9) (8 : Int))) :: Value.int IntKind.u8
  (IntKind.wrap IntKind.u8 (Int.ofNat g.9)) :: Value.int IntKind.u8 (0 : Int) :: Value.int IntKind.u8 (8 : Int) :: Value.int IntKind.u8 (0 : Int) :: Value.int IntKind.u8 (0
  : Int) :: Value.int IntKind.u8 (0 : Int) :: Value.int IntKind.u8 (1 : Int) :: ([] ++ List.take (g.9 * 1) (List.drop 0 (bCells g.8))))) true (Ob.cells true))) 0 (some 0)))
  (9 + g.9 - 9) 1] 2) (cellN [Value.int IntKind.i64 (0 : Int), Value.int IntKind.i64 (8 : Int), Value.int IntKind.i64 (1 : Int), Value.slice (some (Addr.mk (yZ (Row.mk
  (List.take ((9 + g.9) * 1) (Value.int IntKind.u8 (IntKind.wrap IntKind.u8 (ishr IntKind.i64 (Int.ofNat g.9) (16 : Int))) :: Value.int IntKind.u8 (IntKind.wrap IntKind.u8
  (ishr IntKind.i64 (Int.ofNat g.9) (8 : Int))) :: Value.int IntKind.u8 (IntKind.wrap IntKind.u8 (Int.ofNat g.9)) :: Value.int IntKind.u8 (0 : Int) :: Value.int IntKind.u8
  (8 : Int) :: Value.int IntKind.u8 (0 : Int) :: Value.int IntKind.u8 (0 : Int) :: Value.int IntKind.u8 (0 : Int) :: Value.int IntKind.u8 (1 : Int) :: ([] ++ List.take (g.9
  * 1) (List.drop 0 (bCells g.8))))) true (Ob.cells true))) 0 (some 0))) (9 + g.9 - 9) 1] 3) = true))))) /\ (br (Int.ofNat (cellN [Value.int IntKind.i64 (0 : Int), Value.int
  IntKind.i64 (8 : Int), Value.int IntKind.i64 (1 : Int), Value.slice (some (Addr.mk (yZ (Row.mk (List.take ((9 + g.9) * 1) (Value.int IntKind.u8 (IntKind.wrap IntKind.u8
  (ishr IntKind.i64 (Int.ofNat g.9) (16 : Int))) :: Value.int IntKind.u8 (IntKind.wrap IntKind.u8 (ishr IntKind.i64 (Int.ofNat g.9) (8 : Int))) :: Value.int IntKind.u8
  (IntKind.wrap IntKind.u8 (Int.ofNat g.9)) :: Value.int IntKind.u8 (0 : Int) :: Value.int IntKind.u8 (8 : Int) :: Value.int IntKind.u8 (0 : Int) :: Value.int IntKind.u8 (0
  : Int) :: Value.int IntKind.u8 (0 : Int) :: Value.int IntKind.u8 (1 : Int) :: ([] ++ List.take (g.9 * 1) (List.drop 0 (bCells g.8))))) true (Ob.cells true))) 0 (some 0)))
  (9 + g.9 - 9) 1] 3) == (0 : Int)) False (br (decide ((0 : Int) <= (1 : Int) /\ (1 : Int) <= (↑(cellN [Value.int IntKind.i64 (0 : Int), Value.int IntKind.i64 (8 : Int),
  Value.int IntKind.i64 (1 : Int), Value.slice (some (Addr.mk (yZ (Row.mk (List.take ((9 + g.9) * 1) (Value.int IntKind.u8 (IntKind.wrap IntKind.u8 (ishr IntKind.i64
  (Int.ofNat g.9) (16 : Int))) :: Value.int IntKind.u8 (IntKind.wrap IntKind.u8 (ishr IntKind.i64 (Int.ofNat g.9) (8 : Int))) :: Value.int IntKind.u8 (IntKind.wrap
  IntKind.u8 (Int.ofNat g.9)) :: Value.int IntKind.u8 (0 : Int) :: Value.int IntKind.u8 (8 : Int) :: Value.int IntKind.u8 (0 : Int) :: Value.int IntKind.u8 (0 : Int) ::
  Value.int IntKind.u8 (0 : Int) :: Value.int IntKind.u8 (1 : Int) :: ([] ++ List.take (g.9 * 1) (List.drop 0 (bCells g.8))))) true (Ob.cells true))) 0 (some 0))) (9 + g.9 -
  9) 1] 3) : Int) /\ (↑(cellN [Value.int IntKind.i64 (0 : Int), Value.int IntKind.i64 (8 : Int), Value.int IntKind.i64 (1 : Int), Value.slice (some (Addr.mk (yZ (Row.mk
  (List.take ((9 + g.9) * 1) (Value.int IntKind.u8 (IntKind.wrap IntKind.u8 (ishr IntKind.i64 (Int.ofNat g.9) (16 : Int))) :: Value.int IntKind.u8 (IntKind.wrap IntKind.u8
  (ishr IntKind.i64 (Int.ofNat g.9) (8 : Int))) :: Value.int IntKind.u8 (IntKind.wrap IntKind.u8 (Int.ofNat g.9)) :: Value.int IntKind.u8 (0 : Int) :: Value.int IntKind.u8
  (8 : Int) :: Value.int IntKind.u8 (0 : Int) :: Value.int IntKind.u8 (0 : Int) :: Value.int IntKind.u8 (0 : Int) :: Value.int IntKind.u8 (1 : Int) :: ([] ++ List.take (g.9
  * 1) (List.drop 0 (bCells g.8))))) true (Ob.cells true))) 0 (some 0))) (9 + g.9 - 9) 1] 3) : Int) <= (↑(cellN [Value.int IntKind.i64 (0 : Int), Value.int IntKind.i64 (8 :
  Int), Value.int IntKind.i64 (1 : Int), Value.slice (some (Addr.mk (yZ (Row.mk (List.take ((9 + g.9) * 1) (Value.int IntKind.u8 (IntKind.wrap IntKind.u8 (ishr IntKind.i64
  (Int.ofNat g.9) (16 : Int))) :: Value.int IntKind.u8 (IntKind.wrap IntKind.u8 (ishr IntKind.i64 (Int.ofNat g.9) (8 : Int))) :: Value.int IntKind.u8 (IntKind.wrap
  IntKind.u8 (Int.ofNat g.9)) :: Value.int IntKind.u8 (0 : Int) :: Value.int IntKind.u8 (8 : Int) :: Value.int IntKind.u8 (0 : Int) :: Value.int IntKind.u8 (0 : Int) ::
  Value.int IntKind.u8 (0 : Int) :: Value.int IntKind.u8 (1 : Int) :: ([] ++ List.take (g.9 * 1) (List.drop 0 (bCells g.8))))) true (Ob.cells true))) 0 (some 0))) (9 + g.9 -
  9) 1] 3) : Int))) (br (decide ((0 : Int) <= (0 : Int) /\ (0 : Int) < (↑(cellN [Value.int IntKind.i64 (0 : Int), Value.int IntKind.i64 (8 : Int), Value.int IntKind.i64 (1 :
  Int), Value.slice (some (Addr.mk (yZ (Row.mk (List.take ((9 + g.9) * 1) (Value.int IntKind.u8 (IntKind.wrap IntKind.u8 (ishr IntKind.i64 (Int.ofNat g.9) (16 : Int))) ::
  Value.int IntKind.u8 (IntKind.wrap IntKind.u8 (ishr IntKind.i64 (Int.ofNat g.9) (8 : Int))) :: Value.int IntKind.u8 (IntKind.wrap IntKind.u8 (Int.ofNat g.9)) :: Value.int
  IntKind.u8 (0 : Int) :: Value.int IntKind.u8 (8 : Int) :: Value.int IntKind.u8 (0 : Int) :: Value.int IntKind.u8 (0 : Int) :: Value.int IntKind.u8 (0 : Int) :: Value.int
  IntKind.u8 (1 : Int) :: ([] ++ List.take (g.9 * 1) (List.drop 0 (bCells g.8))))) true (Ob.cells true))) 0 (some 0))) (9 + g.9 - 9) 1] 3) : Int))) ((Eq (α := Option Value)
  ((gCells (cellZ [Value.int IntKind.i64 (0 : Int), Value.int IntKind.i64 (8 : Int), Value.int IntKind.i64 (1 : Int), Value.slice (some (Addr.mk (yZ (Row.mk (List.take ((9 +
  g.9) * 1) (Value.int IntKind.u8 (IntKind.wrap IntKind.u8 (ishr IntKind.i64 (Int.ofNat g.9) (16 : Int))) :: Value.int IntKind.u8 (IntKind.wrap IntKind.u8 (ishr IntKind.i64
  (Int.ofNat g.9) (8 : Int))) :: Value.int IntKind.u8 (IntKind.wrap IntKind.u8 (Int.ofNat g.9)) :: Value.int IntKind.u8 (0 : Int) :: Value.int IntKind.u8 (8 : Int) ::
  Value.int IntKind.u8 (0 : Int) :: Value.int IntKind.u8 (0 : Int) :: Value.int IntKind.u8 (0 : Int) :: Value.int IntKind.u8 (1 : Int) :: ([] ++ List.take (g.9 * 1)
  (List.drop 0 (bCells g.8))))) true (Ob.cells true))) 0 (some 0))) (9 + g.9 - 9) 1] 3))[0]?) (some (Value.int IntKind.u8 (cellI (gCells (cellZ [Value.int IntKind.i64 (0 :
  Int), Value.int IntKind.i64 (8 : Int), Value.int IntKind.i64 (1 : Int), Value.slice (some (Addr.mk (yZ (Row.mk (List.take ((9 + g.9) * 1) (Value.int IntKind.u8
  (IntKind.wrap IntKind.u8 (ishr IntKind.i64 (Int.ofNat g.9) (16 : Int))) :: Value.int IntKind.u8 (IntKind.wrap IntKind.u8 (ishr IntKind.i64 (Int.ofNat g.9) (8 : Int))) ::
  Value.int IntKind.u8 (IntKind.wrap IntKind.u8 (Int.ofNat g.9)) :: Value.int IntKind.u8 (0 : Int) :: Value.int IntKind.u8 (8 : Int) :: Value.int IntKind.u8 (0 : Int) ::
  Value.int IntKind.u8 (0 : Int) :: Value.int IntKind.u8 (0 : Int) :: Value.int IntKind.u8 (1 : Int) :: ([] ++ List.take (g.9 * 1) (List.drop 0 (bCells g.8))))) true
  (Ob.cells true))) 0 (some 0))) (9 + g.9 - 9) 1] 3)) 0)))) /\ (br (veq 20 (Value.slice (some (Addr.mk (cellZ [Value.int IntKind.i64 (0 : Int), Value.int IntKind.i64 (8 :
  Int), Value.int IntKind.i64 (1 : Int), Value.slice (some (Addr.mk (yZ (Row.mk (List.take ((9 + g.9) * 1) (Value.int IntKind.u8 (IntKind.wrap IntKind.u8 (ishr IntKind.i64
  (Int.ofNat g.9) (16 : Int))) :: Value.int IntKind.u8 (IntKind.wrap IntKind.u8 (ishr IntKind.i64 (Int.ofNat g.9) (8 : Int))) :: Value.int IntKind.u8 (IntKind.wrap
  IntKind.u8 (Int.ofNat g.9)) :: Value.int IntKind.u8 (0 : Int) :: Value.int IntKind.u8 (8 : Int) :: Value.int IntKind.u8 (0 : Int) :: Value.int IntKind.u8 (0 : Int) ::
  Value.int IntKind.u8 (0 : Int) :: Value.int IntKind.u8 (1 : Int) :: ([] ++ List.take (g.9 * 1) (List.drop 0 (bCells g.8))))) true (Ob.cells true))) 0 (some 0))) (9 + g.9 -
  9) 1] 3) (cellO [Value.int IntKind.i64 (0 : Int), Value.int IntKind.i64 (8 : Int), Value.int IntKind.i64 (1 : Int), Value.slice (some (Addr.mk (yZ (Row.mk (List.take ((9 +
  g.9) * 1) (Value.int IntKind.u8 (IntKind.wrap IntKind.u8 (ishr IntKind.i64 (Int.ofNat g.9) (16 : Int))) :: Value.int IntKind.u8 (IntKind.wrap IntKind.u8 (ishr IntKind.i64
  (Int.ofNat g.9) (8 : Int))) :: Value.int IntKind.u8 (IntKind.wrap IntKind.u8 (Int.ofNat g.9)) :: Value.int IntKind.u8 (0 : Int) :: Value.int IntKind.u8 (8 : Int) ::
  Value.int IntKind.u8 (0 : Int) :: Value.int IntKind.u8 (0 : Int) :: Value.int IntKind.u8 (0 : Int) :: Value.int IntKind.u8 (1 : Int) :: ([] ++ List.take (g.9 * 1)
  (List.drop 0 (bCells g.8))))) true (Ob.cells true))) 0 (some 0))) (9 + g.9 - 9) 1] 3) (some 0))) (cellN [Value.int IntKind.i64 (0 : Int), Value.int IntKind.i64 (8 : Int),
  Value.int IntKind.i64 (1 : Int), Value.slice (some (Addr.mk (yZ (Row.mk (List.take ((9 + g.9) * 1) (Value.int IntKind.u8 (IntKind.wrap IntKind.u8 (ishr IntKind.i64
  (Int.ofNat g.9) (16 : Int))) :: Value.int IntKind.u8 (IntKind.wrap IntKind.u8 (ishr IntKind.i64 (Int.ofNat g.9) (8 : Int))) :: Value.int IntKind.u8 (IntKind.wrap
  IntKind.u8 (Int.ofNat g.9)) :: Value.int IntKind.u8 (0 : Int) :: Value.int IntKind.u8 (8 : Int) :: Value.int IntKind.u8 (0 : Int) :: Value.int IntKind.u8 (0 : Int) ::
  Value.int IntKind.u8 (0 : Int) :: Value.int IntKind.u8 (1 : Int) :: ([] ++ List.take (g.9 * 1) (List.drop 0 (bCells g.8))))) true (Ob.cells true))) 0 (some 0))) (9 + g.9 -
  9) 1] 3) 1) (Value.slice (some (Addr.mk (cellZ [Value.int IntKind.i64 (0 : Int), Value.int IntKind.i64 (8 : Int), Value.int IntKind.i64 (1 : Int), Value.slice (some
  (Addr.mk (yZ (Row.mk (List.take ((9 + g.9) * 1) (Value.int IntKind.u8 (IntKind.wrap IntKind.u8 (ishr IntKind.i64 (Int.ofNat g.9) (16 : Int))) :: Value.int IntKind.u8
  (IntKind.wrap IntKind.u8 (ishr IntKind.i64 (Int.ofNat g.9) (8 : Int))) :: Value.int IntKind.u8 (IntKind.wrap IntKind.u8 (Int.ofNat g.9)) :: Value.int IntKind.u8 (0 : Int)
  :: Value.int IntKind.u8 (8 : Int) :: Value.int IntKind.u8 (0 : Int) :: Value.int IntKind.u8 (0 : Int) :: Value.int IntKind.u8 (0 : Int) :: Value.int IntKind.u8 (1 : Int)
  :: ([] ++ List.take (g.9 * 1) (List.drop 0 (bCells g.8))))) true (Ob.cells true))) 0 (some 0))) (9 + g.9 - 9) 1] 3) (cellO [Value.int IntKind.i64 (0 : Int), Value.int
  IntKind.i64 (8 : Int), Value.int IntKind.i64 (1 : Int), Value.slice (some (Addr.mk (yZ (Row.mk (List.take ((9 + g.9) * 1) (Value.int IntKind.u8 (IntKind.wrap IntKind.u8
  (ishr IntKind.i64 (Int.ofNat g.9) (16 : Int))) :: Value.int IntKind.u8 (IntKind.wrap IntKind.u8 (ishr IntKind.i64 (Int.ofNat g.9) (8 : Int))) :: Value.int IntKind.u8
  (IntKind.wrap IntKind.u8 (Int.ofNat g.9)) :: Value.int IntKind.u8 (0 : Int) :: Value.int IntKind.u8 (8 : Int) :: Value.int IntKind.u8 (0 : Int) :: Value.int IntKind.u8 (0
  : Int) :: Value.int IntKind.u8 (0 : Int) :: Value.int IntKind.u8 (1 : Int) :: ([] ++ List.take (g.9 * 1) (List.drop 0 (bCells g.8))))) true (Ob.cells true))) 0 (some 0)))
  (9 + g.9 - 9) 1] 3) (some 0))) (cellN [Value.int IntKind.i64 (0 : Int), Value.int IntKind.i64 (8 : Int), Value.int IntKind.i64 (1 : Int), Value.slice (some (Addr.mk (yZ
  (Row.mk (List.take ((9 + g.9) * 1) (Value.int IntKind.u8 (IntKind.wrap IntKind.u8 (ishr IntKind.i64 (Int.ofNat g.9) (16 : Int))) :: Value.int IntKind.u8 (IntKind.wrap
  IntKind.u8 (ishr IntKind.i64 (Int.ofNat g.9) (8 : Int))) :: Value.int IntKind.u8 (IntKind.wrap IntKind.u8 (Int.ofNat g.9)) :: Value.int IntKind.u8 (0 : Int) :: Value.int
  IntKind.u8 (8 : Int) :: Value.int IntKind.u8 (0 : Int) :: Value.int IntKind.u8 (0 : Int) :: Value.int IntKind.u8 (0 : Int) :: Value.int IntKind.u8 (1 : Int) :: ([] ++
  List.take (g.9 * 1) (List.drop 0 (bCells g.8))))) true (Ob.cells true))) 0 (some 0))) (9 + g.9 - 9) 1] 3) 1)) (br (decide ((0 : Int) <= (1 : Int) /\ (1 : Int) <= (↑(cellN
  [Value.int IntKind.i64 (0 : Int), Value.int IntKind.i64 (8 : Int), Value.int IntKind.i64 (1 : Int), Value.slice (some (Addr.mk (yZ (Row.mk (List.take ((9 + g.9) * 1)
  (Value.int IntKind.u8 (IntKind.wrap IntKind.u8 (ishr IntKind.i64 (Int.ofNat g.9) (16 : Int))) :: Value.int IntKind.u8 (IntKind.wrap IntKind.u8 (ishr IntKind.i64 (Int.ofNat
  g.9) (8 : Int))) :: Value.int IntKind.u8 (IntKind.wrap IntKind.u8 (Int.ofNat g.9)) :: Value.int IntKind.u8 (0 : Int) :: Value.int IntKind.u8 (8 : Int) :: Value.int
  IntKind.u8 (0 : Int) :: Value.int IntKind.u8 (0 : Int) :: Value.int IntKind.u8 (0 : Int) :: Value.int IntKind.u8 (1 : Int) :: ([] ++ List.take (g.9 * 1) (List.drop 0
  (bCells g.8))))) true (Ob.cells true))) 0 (some 0))) (9 + g.9 - 9) 1] 3) : Int) /\ (↑(cellN [Value.int IntKind.i64 (0 : Int), Value.int IntKind.i64 (8 : Int), Value.int
  IntKind.i64 (1 : Int), Value.slice (some (Addr.mk (yZ (Row.mk (List.take ((9 + g.9) * 1) (Value.int IntKind.u8 (IntKind.wrap IntKind.u8 (ishr IntKind.i64 (Int.ofNat g.9)
  (16 : Int))) :: Value.int IntKind.u8 (IntKind.wrap IntKind.u8 (ishr IntKind.i64 (Int.ofNat g.9) (8 : Int))) :: Value.int IntKind.u8 (IntKind.wrap IntKind.u8 (Int.ofNat
  g.9)) :: Value.int IntKind.u8 (0 : Int) :: Value.int IntKind.u8 (8 : Int) :: Value.int IntKind.u8 (0 : Int) :: Value.int IntKind.u8 (0 : Int) :: Value.int IntKind.u8 (0 :
  Int) :: Value.int IntKind.u8 (1 : Int) :: ([] ++ List.take (g.9 * 1) (List.drop 0 (bCells g.8))))) true (Ob.cells true))) 0 (some 0))) (9 + g.9 - 9) 1] 3) : Int) <=
  (↑(cellN [Value.int IntKind.i64 (0 : Int), Value.int IntKind.i64 (8 : Int), Value.int IntKind.i64 (1 : Int), Value.slice (some (Addr.mk (yZ (Row.mk (List.take ((9 + g.9) *
  1) (Value.int IntKind.u8 (IntKind.wrap IntKind.u8 (ishr IntKind.i64 (Int.ofNat g.9) (16 : Int))) :: Value.int IntKind.u8 (IntKind.wrap IntKind.u8 (ishr IntKind.i64
  (Int.ofNat g.9) (8 : Int))) :: Value.int IntKind.u8 (IntKind.wrap IntKind.u8 (Int.ofNat g.9)) :: Value.int IntKind.u8 (0 : Int) :: Value.int IntKind.u8 (8 : Int) ::
  Value.int IntKind.u8 (0 : Int) :: Value.int IntKind.u8 (0 : Int) :: Value.int IntKind.u8 (0 : Int) :: Value.int IntKind.u8 (1 : Int) :: ([] ++ List.take (g.9 * 1)
  (List.drop 0 (bCells g.8))))) true (Ob.cells true))) 0 (some 0))) (9 + g.9 - 9) 1] 3) : Int))) (br (veq 20 (Value.slice (some (Addr.mk (cellZ [Value.int IntKind.i64 (0 :
  Int), Value.int IntKind.i64 (8 : Int), Value.int IntKind.i64 (1 : Int), Value.slice (some (Addr.mk (yZ (Row.mk (List.take ((9 + g.9) * 1) (Value.int IntKind.u8
  (IntKind.wrap IntKind.u8 (ishr IntKind.i64 (Int.ofNat g.9) (16 : Int))) :: Value.int IntKind.u8 (IntKind.wrap IntKind.u8 (ishr IntKind.i64 (Int.ofNat g.9) (8 : Int))) ::
  Value.int IntKind.u8 (IntKind.wrap IntKind.u8 (Int.ofNat g.9)) :: Value.int IntKind.u8 (0 : Int) :: Value.int IntKind.u8 (8 : Int) :: Value.int IntKind.u8 (0 : Int) ::
  Value.int IntKind.u8 (0 : Int) :: Value.int IntKind.u8 (0 : Int) :: Value.int IntKind.u8 (1 : Int) :: ([] ++ List.take (g.9 * 1) (List.drop 0 (bCells g.8))))) true
  (Ob.cells true))) 0 (some 0))) (9 + g.9 - 9) 1] 3) 1 (some 0))) (Int.toNat (↑(cellN [Value.int IntKind.i64 (0 : Int), Value.int IntKind.i64 (8 : Int), Value.int
  IntKind.i64 (1 : Int), Value.slice (some (Addr.mk (yZ (Row.mk (List.take ((9 + g.9) * 1) (Value.int IntKind.u8 (IntKind.wrap IntKind.u8 (ishr IntKind.i64 (Int.ofNat g.9)
  (16 : Int))) :: Value.int IntKind.u8 (IntKind.wrap IntKind.u8 (ishr IntKind.i64 (Int.ofNat g.9) (8 : Int))) :: Value.int IntKind.u8 (IntKind.wrap IntKind.u8 (Int.ofNat
  g.9)) :: Value.int IntKind.u8 (0 : Int) :: Value.int IntKind.u8 (8 : Int) :: Value.int IntKind.u8 (0 : Int) :: Value.int IntKind.u8 (0 : Int) :: Value.int IntKind.u8 (0 :
  Int) :: Value.int IntKind.u8 (1 : Int) :: ([] ++ List.take (g.9 * 1) (List.drop 0 (bCells g.8))))) true (Ob.cells true))) 0 (some 0))) (9 + g.9 - 9) 1] 3) : Int) - 1) 1)
  (Value.slice (some (Addr.mk (cellZ [Value.int IntKind.i64 (0 : Int), Value.int IntKind.i64 (8 : Int), Value.int IntKind.i64 (1 : Int), Value.slice (some (Addr.mk (yZ
  (Row.mk (List.take ((9 + g.9) * 1) (Value.int IntKind.u8 (IntKind.wrap IntKind.u8 (ishr IntKind.i64 (Int.ofNat g.9) (16 : Int))) :: Value.int IntKind.u8 (IntKind.wrap
  IntKind.u8 (ishr IntKind.i64 (Int.ofNat g.9) (8 : Int))) :: Value.int IntKind.u8 (IntKind.wrap IntKind.u8 (Int.ofNat g.9)) :: Value.int IntKind.u8 (0 : Int) :: Value.int
  IntKind.u8 (8 : Int) :: Value.int IntKind.u8 (0 : Int) :: Value.int IntKind.u8 (0 : Int) :: Value.int IntKind.u8 (0 : Int) :: Value.int IntKind.u8 (1 : Int) :: ([] ++
  List.take (g.9 * 1) (List.drop 0 (bCells g.8))))) true (Ob.cells true))) 0 (some 0))) (9 + g.9 - 9) 1] 3) 1 (some 0))) (Int.toNat (↑(cellN [Value.int IntKind.i64 (0 :
  Int), Value.int IntKind.i64 (8 : Int), Value.int IntKind.i64 (1 : Int), Value.slice (some (Addr.mk (yZ (Row.mk (List.take ((9 + g.9) * 1) (Value.int IntKind.u8
  (IntKind.wrap IntKind.u8 (ishr IntKind.i64 (Int.ofNat g.9) (16 : Int))) :: Value.int IntKind.u8 (IntKind.wrap IntKind.u8 (ishr IntKind.i64 (Int.ofNat g.9) (8 : Int))) ::
  Value.int IntKind.u8 (IntKind.wrap IntKind.u8 (Int.ofNat g.9)) :: Value.int IntKind.u8 (0 : Int) :: Value.int IntKind.u8 (8 : Int) :: Value.int IntKind.u8 (0 : Int) ::
  Value.int IntKind.u8 (0 : Int) :: Value.int IntKind.u8 (0 : Int) :: Value.int IntKind.u8 (1 : Int) :: ([] ++ List.take (g.9 * 1) (List.drop 0 (bCells g.8))))) true
  (Ob.cells true))) 0 (some 0))) (9 + g.9 - 9) 1] 3) : Int) - 1) 1)) (br (veq 20 (Value.slice (some (Addr.mk (cellZ [Value.int IntKind.i64 (0 : Int), Value.int IntKind.i64
  (8 : Int), Value.int IntKind.i64 (1 : Int), Value.slice (some (Addr.mk (yZ (Row.mk (List.take ((9 + g.9) * 1) (Value.int IntKind.u8 (IntKind.wrap IntKind.u8 (ishr
  IntKind.i64 (Int.ofNat g.9) (16 : Int))) :: Value.int IntKind.u8 (IntKind.wrap IntKind.u8 (ishr IntKind.i64 (Int.ofNat g.9) (8 : Int))) :: Value.int IntKind.u8
  (IntKind.wrap IntKind.u8 (Int.ofNat g.9)) :: Value.int IntKind.u8 (0 : Int) :: Value.int IntKind.u8 (8 : Int) :: Value.int IntKind.u8 (0 : Int) :: Value.int IntKind.u8 (0
  : Int) :: Value.int IntKind.u8 (0 : Int) :: Value.int IntKind.u8 (1 : Int) :: ([] ++ List.take (g.9 * 1) (List.drop 0 (bCells g.8))))) true (Ob.cells true))) 0 (some 0)))
  (9 + g.9 - 9) 1] 3) (cellO [Value.int IntKind.i64 (0 : Int), Value.int IntKind.i64 (8 : Int), Value.int IntKind.i64 (1 : Int), Value.slice (some (Addr.mk (yZ (Row.mk
  (List.take ((9 + g.9) * 1) (Value.int IntKind.u8 (IntKind.wrap IntKind.u8 (ishr IntKind.i64 (Int.ofNat g.9) (16 : Int))) :: Value.int IntKind.u8 (IntKind.wrap IntKind.u8
  (ishr IntKind.i64 (Int.ofNat g.9) (8 : Int))) :: Value.int IntKind.u8 (IntKind.wrap IntKind.u8 (Int.ofNat g.9)) :: Value.int IntKind.u8 (0 : Int) :: Value.int IntKind.u8
  (8 : Int) :: Value.int IntKind.u8 (0 : Int) :: Value.int IntKind.u8 (0 : Int) :: Value.int IntKind.u8 (0 : Int) :: Value.int IntKind.u8 (1 : Int) :: ([] ++ List.take (g.9
  * 1) (List.drop 0 (bCells g.8))))) true (Ob.cells true))) 0 (some 0))) (9 + g.9 - 9) 1] 3) (some 0))) (cellN [Value.int IntKind.i64 (0 : Int), Value.int IntKind.i64 (8 :
  Int), Value.int IntKind.i64 (1 : Int), Value.slice (some (Addr.mk (yZ (Row.mk (List.take ((9 + g.9) * 1) (Value.int IntKind.u8 (IntKind.wrap IntKind.u8 (ishr IntKind.i64
  (Int.ofNat g.9) (16 : Int))) :: Value.int IntKind.u8 (IntKind.wrap IntKind.u8 (ishr IntKind.i64 (Int.ofNat g.9) (8 : Int))) :: Value.int IntKind.u8 (IntKind.wrap
  IntKind.u8 (Int.ofNat g.9)) :: Value.int IntKind.u8 (0 : Int) :: Value.int IntKind.u8 (8 : Int) :: Value.int IntKind.u8 (0 : Int) :: Value.int IntKind.u8 (0 : Int) ::
  Value.int IntKind.u8 (0 : Int) :: Value.int IntKind.u8 (1 : Int) :: ([] ++ List.take (g.9 * 1) (List.drop 0 (bCells g.8))))) true (Ob.cells true))) 0 (some 0))) (9 + g.9 -
  9) 1] 3) 1) (Value.slice (some (Addr.mk (cellZ [Value.int IntKind.i64 (0 : Int), Value.int IntKind.i64 (8 : Int), Value.int IntKind.i64 (1 : Int), Value.slice (some
  (Addr.mk (yZ (Row.mk (List.take ((9 + g.9) * 1) (Value.int IntKind.u8 (IntKind.wrap IntKind.u8 (ishr IntKind.i64 (Int.ofNat g.9) (16 : Int))) :: Value.int IntKind.u8
  (IntKind.wrap IntKind.u8 (ishr IntKind.i64 (Int.ofNat g.9) (8 : Int))) :: Value.int IntKind.u8 (IntKind.wrap IntKind.u8 (Int.ofNat g.9)) :: Value.int IntKind.u8 (0 : Int)
  :: Value.int IntKind.u8 (8 : Int) :: Value.int IntKind.u8 (0 : Int) :: Value.int IntKind.u8 (0 : Int) :: Value.int IntKind.u8 (0 : Int) :: Value.int IntKind.u8 (1 : Int)
  :: ([] ++ List.take (g.9 * 1) (List.drop 0 (bCells g.8))))) true (Ob.cells true))) 0 (some 0))) (9 + g.9 - 9) 1] 3) (cellO [Value.int IntKind.i64 (0 : Int), Value.int
  IntKind.i64 (8 : Int), Value.int IntKind.i64 (1 : Int), Value.slice (some (Addr.mk (yZ (Row.mk (List.take ((9 + g.9) * 1) (Value.int IntKind.u8 (IntKind.wrap IntKind.u8
  (ishr IntKind.i64 (Int.ofNat g.9) (16 : Int))) :: Value.int IntKind.u8 (IntKind.wrap IntKind.u8 (ishr IntKind.i64 (Int.ofNat g.9) (8 : Int))) :: Value.int IntKind.u8
  (IntKind.wrap IntKind.u8 (Int.ofNat g.9)) :: Value.int IntKind.u8 (0 : Int) :: Value.int IntKind.u8 (8 : Int) :: Value.int IntKind.u8 (0 : Int) :: Value.int IntKind.u8 (0
  : Int) :: Value.int IntKind.u8 (0 : Int) :: Value.int IntKind.u8 (1 : Int) :: ([] ++ List.take (g.9 * 1) (List.drop 0 (bCells g.8))))) true (Ob.cells true))) 0 (some 0)))
  (9 + g.9 - 9) 1] 3) (some 0))) (cellN [Value.int IntKind.i64 (0 : Int), Value.int IntKind.i64 (8 : Int), Value.int IntKind.i64 (1 : Int), Value.slice (some (Addr.mk (yZ
  (Row.mk (List.take ((9 + g.9) * 1) (Value.int IntKind.u8 (IntKind.wrap IntKind.u8 (ishr IntKind.i64 (Int.ofNat g.9) (16 : Int))) :: Value.int IntKind.u8 (IntKind.wrap
  IntKind.u8 (ishr IntKind.i64 (Int.ofNat g.9) (8 : Int))) :: Value.int IntKind.u8 (IntKind.wrap IntKind.u8 (Int.ofNat g.9)) :: Value.int IntKind.u8 (0 : Int) :: Value.int
  IntKind.u8 (8 : Int) :: Value.int IntKind.u8 (0 : Int) :: Value.int IntKind.u8 (0 : Int) :: Value.int IntKind.u8 (0 : Int) :: Value.int IntKind.u8 (1 : Int) :: ([] ++
  List.take (g.9 * 1) (List.drop 0 (bCells g.8))))) true (Ob.cells true))) 0 (some 0))) (9 + g.9 - 9) 1] 3) 1)) ((Eq (α := Option Value) ((gCells (cellZ [Value.int
  IntKind.i64 (0 : Int), Value.int IntKind.i64 (8 : Int), Value.int IntKind.i64 (1 : Int), Value.slice (some (Addr.mk (yZ (Row.mk (List.take ((9 + g.9) * 1) (Value.int
  IntKind.u8 (IntKind.wrap IntKind.u8 (ishr IntKind.i64 (Int.ofNat g.9) (16 : Int))) :: Value.int IntKind.u8 (IntKind.wrap IntKind.u8 (ishr IntKind.i64 (Int.ofNat g.9) (8 :
  Int))) :: Value.int IntKind.u8 (IntKind.wrap IntKind.u8 (Int.ofNat g.9)) :: Value.int IntKind.u8 (0 : Int) :: Value.int IntKind.u8 (8 : Int) :: Value.int IntKind.u8 (0 :
  Int) :: Value.int IntKind.u8 (0 : Int) :: Value.int IntKind.u8 (0 : Int) :: Value.int IntKind.u8 (1 : Int) :: ([] ++ List.take (g.9 * 1) (List.drop 0 (bCells g.8))))) true
  (Ob.cells true))) 0 (some 0))) (9 + g.9 - 9) 1] 3))[0]?) (some (Value.int IntKind.u8 (cellI (gCells (cellZ [Value.int IntKind.i64 (0 : Int), Value.int IntKind.i64 (8 :
  Int), Value.int IntKind.i64 (1 : Int), Value.slice (some (Addr.mk (yZ (Row.mk (List.take ((9 + g.9) * 1) (Value.int IntKind.u8 (IntKind.wrap IntKind.u8 (ishr IntKind.i64
  (Int.ofNat g.9) (16 : Int))) :: Value.int IntKind.u8 (IntKind.wrap IntKind.u8 (ishr IntKind.i64 (Int.ofNat g.9) (8 : Int))) :: Value.int IntKind.u8 (IntKind.wrap
  IntKind.u8 (Int.ofNat g.9)) :: Value.int IntKind.u8 (0 : Int) :: Value.int IntKind.u8 (8 : Int) :: Value.int IntKind.u8 (0 : Int) :: Value.int IntKind.u8 (0 : Int) ::
  Value.int IntKind.u8 (0 : Int) :: Value.int IntKind.u8 (1 : Int) :: ([] ++ List.take (g.9 * 1) (List.drop 0 (bCells g.8))))) true (Ob.cells true))) 0 (some 0))) (9 + g.9 -
  9) 1] 3)) 0)))) /\ (br (veq 20 (Value.int IntKind.u8 (cellI (gCells (cellZ [Value.int IntKind.i64 (0 : Int), Value.int IntKind.i64 (8 : Int), Value.int IntKind.i64 (1 :
  Int), Value.slice (some (Addr.mk (yZ (Row.mk (List.take ((9 + g.9) * 1) (Value.int IntKind.u8 (IntKind.wrap IntKind.u8 (ishr IntKind.i64 (Int.ofNat g.9) (16 : Int))) ::
  Value.int IntKind.u8 (IntKind.wrap IntKind.u8 (ishr IntKind.i64 (Int.ofNat g.9) (8 : Int))) :: Value.int IntKind.u8 (IntKind.wrap IntKind.u8 (Int.ofNat g.9)) :: Value.int
  IntKind.u8 (0 : Int) :: Value.int IntKind.u8 (8 : Int) :: Value.int IntKind.u8 (0 : Int) :: Value.int IntKind.u8 (0 : Int) :: Value.int IntKind.u8 (0 : Int) :: Value.int
  IntKind.u8 (1 : Int) :: ([] ++ List.take (g.9 * 1) (List.drop 0 (bCells g.8))))) true (Ob.cells true))) 0 (some 0))) (9 + g.9 - 9) 1] 3)) 0)) (Value.int IntKind.u8 (cellI
  (gCells (cellZ [Value.int IntKind.i64 (0 : Int), Value.int IntKind.i64 (8 : Int), Value.int IntKind.i64 (1 : Int), Value.slice (some (Addr.mk (yZ (Row.mk (List.take ((9 +
  g.9) * 1) (Value.int IntKind.u8 (IntKind.wrap IntKind.u8 (ishr IntKind.i64 (Int.ofNat g.9) (16 : Int))) :: Value.int IntKind.u8 (IntKind.wrap IntKind.u8 (ishr IntKind.i64
  (Int.ofNat g.9) (8 : Int))) :: Value.int IntKind.u8 (IntKind.wrap IntKind.u8 (Int.ofNat g.9)) :: Value.int IntKind.u8 (0 : Int) :: Value.int IntKind.u8 (8 : Int) ::
  Value.int IntKind.u8 (0 : Int) :: Value.int IntKind.u8 (0 : Int) :: Value.int IntKind.u8 (0 : Int) :: Value.int IntKind.u8 (1 : Int) :: ([] ++ List.take (g.9 * 1)
  (List.drop 0 (bCells g.8))))) true (Ob.cells true))) 0 (some 0))) (9 + g.9 - 9) 1] 3)) 0))) (br (veq 20 (Value.int IntKind.i64 (IntKind.wrap IntKind.i64 (cellI (gCells
  (cellZ [Value.int IntKind.i64 (0 : Int), Value.int IntKind.i64 (8 : Int), Value.int IntKind.i64 (1 : Int), Value.slice (some (Addr.mk (yZ (Row.mk (List.take ((9 + g.9) *
  1) (Value.int IntKind.u8 (IntKind.wrap IntKind.u8 (ishr IntKind.i64 (Int.ofNat g.9) (16 : Int))) :: Value.int IntKind.u8 (IntKind.wrap IntKind.u8 (ishr IntKind.i64
  (Int.ofNat g.9) (8 : Int))) :: Value.int IntKind.u8 (IntKind.wrap IntKind.u8 (Int.ofNat g.9)) :: Value.int IntKind.u8 (0 : Int) :: Value.int IntKind.u8 (8 : Int) ::
  Value.int IntKind.u8 (0 : Int) :: Value.int IntKind.u8 (0 : Int) :: Value.int IntKind.u8 (0 : Int) :: Value.int IntKind.u8 (1 : Int) :: ([] ++ List.take (g.9 * 1)
  (List.drop 0 (bCells g.8))))) true (Ob.cells true))) 0 (some 0))) (9 + g.9 - 9) 1] 3)) 0))) (Value.int IntKind.i64 (IntKind.wrap IntKind.i64 (cellI (gCells (cellZ
  [Value.int IntKind.i64 (0 : Int), Value.int IntKind.i64 (8 : Int), Value.int IntKind.i64 (1 : Int), Value.slice (some (Addr.mk (yZ (Row.mk (List.take ((9 + g.9) * 1)
  (Value.int IntKind.u8 (IntKind.wrap IntKind.u8 (ishr IntKind.i64 (Int.ofNat g.9) (16 : Int))) :: Value.int IntKind.u8 (IntKind.wrap IntKind.u8 (ishr IntKind.i64 (Int.ofNat
  g.9) (8 : Int))) :: Value.int IntKind.u8 (IntKind.wrap IntKind.u8 (Int.ofNat g.9)) :: Value.int IntKind.u8 (0 : Int) :: Value.int IntKind.u8 (8 : Int) :: Value.int
  IntKind.u8 (0 : Int) :: Value.int IntKind.u8 (0 : Int) :: Value.int IntKind.u8 (0 : Int) :: Value.int IntKind.u8 (1 : Int) :: ([] ++ List.take (g.9 * 1) (List.drop 0
  (bCells g.8))))) true (Ob.cells true))) 0 (some 0))) (9 + g.9 - 9) 1] 3)) 0)))) (br (decide (IntKind.wrap IntKind.i64 (cellI (gCells (cellZ [Value.int IntKind.i64 (0 :
  Int), Value.int IntKind.i64 (8 : Int), Value.int IntKind.i64 (1 : Int), Value.slice (some (Addr.mk (yZ (Row.mk (List.take ((9 + g.9) * 1) (Value.int IntKind.u8
  (IntKind.wrap IntKind.u8 (ishr IntKind.i64 (Int.ofNat g.9) (16 : Int))) :: Value.int IntKind.u8 (IntKind.wrap IntKind.u8 (ishr IntKind.i64 (Int.ofNat g.9) (8 : Int))) ::
  Value.int IntKind.u8 (IntKind.wrap IntKind.u8 (Int.ofNat g.9)) :: Value.int IntKind.u8 (0 : Int) :: Value.int IntKind.u8 (8 : Int) :: Value.int IntKind.u8 (0 : Int) ::
  Value.int IntKind.u8 (0 : Int) :: Value.int IntKind.u8 (0 : Int) :: Value.int IntKind.u8 (1 : Int) :: ([] ++ List.take (g.9 * 1) (List.drop 0 (bCells g.8))))) true
  (Ob.cells true))) 0 (some 0))) (9 + g.9 - 9) 1] 3)) 0) > Int.ofNat (Int.toNat (↑(cellN [Value.int IntKind.i64 (0 : Int), Value.int IntKind.i64 (8 : Int), Value.int
  IntKind.i64 (1 : Int), Value.slice (some (Addr.mk (yZ (Row.mk (List.take ((9 + g.9) * 1) (Value.int IntKind.u8 (IntKind.wrap IntKind.u8 (ishr IntKind.i64 (Int.ofNat g.9)
  (16 : Int))) :: Value.int IntKind.u8 (IntKind.wrap IntKind.u8 (ishr IntKind.i64 (Int.ofNat g.9) (8 : Int))) :: Value.int IntKind.u8 (IntKind.wrap IntKind.u8 (Int.ofNat
  g.9)) :: Value.int IntKind.u8 (0 : Int) :: Value.int IntKind.u8 (8 : Int) :: Value.int IntKind.u8 (0 : Int) :: Value.int IntKind.u8 (0 : Int) :: Value.int IntKind.u8 (0 :
  Int) :: Value.int IntKind.u8 (1 : Int) :: ([] ++ List.take (g.9 * 1) (List.drop 0 (bCells g.8))))) true (Ob.cells true))) 0 (some 0))) (9 + g.9 - 9) 1] 3) : Int) - 1)))
  False (br (decide ((0 : Int) <= (↑0 : Int) /\ (0 : Int) <= IntKind.wrap IntKind.i64 (Int.ofNat (Int.toNat (↑(cellN [Value.int IntKind.i64 (0 : Int), Value.int IntKind.i64
  (8 : Int), Value.int IntKind.i64 (1 : Int), Value.slice (some (Addr.mk (yZ (Row.mk (List.take ((9 + g.9) * 1) (Value.int IntKind.u8 (IntKind.wrap IntKind.u8 (ishr
  IntKind.i64 (Int.ofNat g.9) (16 : Int))) :: Value.int IntKind.u8 (IntKind.wrap IntKind.u8 (ishr IntKind.i64 (Int.ofNat g.9) (8 : Int))) :: Value.int IntKind.u8
  (IntKind.wrap IntKind.u8 (Int.ofNat g.9)) :: Value.int IntKind.u8 (0 : Int) :: Value.int IntKind.u8 (8 : Int) :: Value.int IntKind.u8 (0 : Int) :: Value.int IntKind.u8 (0
  : Int) :: Value.int IntKind.u8 (0 : Int) :: Value.int IntKind.u8 (1 : Int) :: ([] ++ List.take (g.9 * 1) (List.drop 0 (bCells g.8))))) true (Ob.cells true))) 0 (some 0)))
  (9 + g.9 - 9) 1] 3) : Int) - 1) - IntKind.wrap IntKind.i64 (cellI (gCells (cellZ [Value.int IntKind.i64 (0 : Int), Value.int IntKind.i64 (8 : Int), Value.int IntKind.i64
  (1 : Int), Value.slice (some (Addr.mk (yZ (Row.mk (List.take ((9 + g.9) * 1) (Value.int IntKind.u8 (IntKind.wrap IntKind.u8 (ishr IntKind.i64 (Int.ofNat g.9) (16 : Int)))
  :: Value.int IntKind.u8 (IntKind.wrap IntKind.u8 (ishr IntKind.i64 (Int.ofNat g.9) (8 : Int))) :: Value.int IntKind.u8 (IntKind.wrap IntKind.u8 (Int.ofNat g.9)) ::
  Value.int IntKind.u8 (0 : Int) :: Value.int IntKind.u8 (8 : Int) :: Value.int IntKind.u8 (0 : Int) :: Value.int IntKind.u8 (0 : Int) :: Value.int IntKind.u8 (0 : Int) ::
  Value.int IntKind.u8 (1 : Int) :: ([] ++ List.take (g.9 * 1) (List.drop 0 (bCells g.8))))) true (Ob.cells true))) 0 (some 0))) (9 + g.9 - 9) 1] 3)) 0)) /\ IntKind.wrap
  IntKind.i64 (Int.ofNat (Int.toNat (↑(cellN [Value.int IntKind.i64 (0 : Int), Value.int IntKind.i64 (8 : Int), Value.int IntKind.i64 (1 : Int), Value.slice (some (Addr.mk
  (yZ (Row.mk (List.take ((9 + g.9) * 1) (Value.int IntKind.u8 (IntKind.wrap IntKind.u8 (ishr IntKind.i64 (Int.ofNat g.9) (16 : Int))) :: Value.int IntKind.u8 (IntKind.wrap
  IntKind.u8 (ishr IntKind.i64 (Int.ofNat g.9) (8 : Int))) :: Value.int IntKind.u8 (IntKind.wrap IntKind.u8 (Int.ofNat g.9)) :: Value.int IntKind.u8 (0 : Int) :: Value.int
  IntKind.u8 (8 : Int) :: Value.int IntKind.u8 (0 : Int) :: Value.int IntKind.u8 (0 : Int) :: Value.int IntKind.u8 (0 : Int) :: Value.int IntKind.u8 (1 : Int) :: ([] ++
  List.take (g.9 * 1) (List.drop 0 (bCells g.8))))) true (Ob.cells true))) 0 (some 0))) (9 + g.9 - 9) 1] 3) : Int) - 1) - IntKind.wrap IntKind.i64 (cellI (gCells (cellZ
  [Value.int IntKind.i64 (0 : Int), Value.int IntKind.i64 (8 : Int), Value.int IntKind.i64 (1 : Int), Value.slice (some (Addr.mk (yZ (Row.mk (List.take ((9 + g.9) * 1)
  (Value.int IntKind.u8 (IntKind.wrap IntKind.u8 (ishr IntKind.i64 (Int.ofNat g.9) (16 : Int))) :: Value.int IntKind.u8 (IntKind.wrap IntKind.u8 (ishr IntKind.i64 (Int.ofNat
  g.9) (8 : Int))) :: Value.int IntKind.u8 (IntKind.wrap IntKind.u8 (Int.ofNat g.9)) :: Value.int IntKind.u8 (0 : Int) :: Value.int IntKind.u8 (8 : Int) :: Value.int
  IntKind.u8 (0 : Int) :: Value.int IntKind.u8 (0 : Int) :: Value.int IntKind.u8 (0 : Int) :: Value.int IntKind.u8 (1 : Int) :: ([] ++ List.take (g.9 * 1) (List.drop 0
  (bCells g.8))))) true (Ob.cells true))) 0 (some 0))) (9 + g.9 - 9) 1] 3)) 0)) <= (↑(Int.toNat (↑(cellN [Value.int IntKind.i64 (0 : Int), Value.int IntKind.i64 (8 : Int),
  Value.int IntKind.i64 (1 : Int), Value.slice (some (Addr.mk (yZ (Row.mk (List.take ((9 + g.9) * 1) (Value.int IntKind.u8 (IntKind.wrap IntKind.u8 (ishr IntKind.i64
  (Int.ofNat g.9) (16 : Int))) :: Value.int IntKind.u8 (IntKind.wrap IntKind.u8 (ishr IntKind.i64 (Int.ofNat g.9) (8 : Int))) :: Value.int IntKind.u8 (IntKind.wrap
  IntKind.u8 (Int.ofNat g.9)) :: Value.int IntKind.u8 (0 : Int) :: Value.int IntKind.u8 (8 : Int) :: Value.int IntKind.u8 (0 : Int) :: Value.int IntKind.u8 (0 : Int) ::
  Value.int IntKind.u8 (0 : Int) :: Value.int IntKind.u8 (1 : Int) :: ([] ++ List.take (g.9 * 1) (List.drop 0 (bCells g.8))))) true (Ob.cells true))) 0 (some 0))) (9 + g.9 -
  9) 1] 3) : Int) - 1) : Int))) (br (decide (1 + (Int.toNat (IntKind.wrap IntKind.i64 (Int.ofNat (Int.toNat (↑(cellN [Value.int IntKind.i64 (0 : Int), Value.int IntKind.i64
  (8 : Int), Value.int IntKind.i64 (1 : Int), Value.slice (some (Addr.mk (yZ (Row.mk (List.take ((9 + g.9) * 1) (Value.int IntKind.u8 (IntKind.wrap IntKind.u8 (ishr
  IntKind.i64 (Int.ofNat g.9) (16 : Int))) :: Value.int IntKind.u8 (IntKind.wrap IntKind.u8 (ishr IntKind.i64 (Int.ofNat g.9) (8 : Int))) :: Value.int IntKind.u8
  (IntKind.wrap IntKind.u8 (Int.ofNat g.9)) :: Value.int IntKind.u8 (0 : Int) :: Value.int IntKind.u8 (8 : Int) :: Value.int IntKind.u8 (0 : Int) :: Value.int IntKind.u8 (0
  : Int) :: Value.int IntKind.u8 (0 : Int) :: Value.int IntKind.u8 (1 : Int) :: ([] ++ List.take (g.9 * 1) (List.drop 0 (bCells g.8))))) true (Ob.cells true))) 0 (some 0)))
  (9 + g.9 - 9) 1] 3) : Int) - 1) - IntKind.wrap IntKind.i64 (cellI (gCells (cellZ [Value.int IntKind.i64 (0 : Int), Value.int IntKind.i64 (8 : Int), Value.int IntKind.i64
  (1 : Int), Value.slice (some (Addr.mk (yZ (Row.mk (List.take ((9 + g.9) * 1) (Value.int IntKind.u8 (IntKind.wrap IntKind.u8 (ishr IntKind.i64 (Int.ofNat g.9) (16 : Int)))
  :: Value.int IntKind.u8 (IntKind.wrap IntKind.u8 (ishr IntKind.i64 (Int.ofNat g.9) (8 : Int))) :: Value.int IntKind.u8 (IntKind.wrap IntKind.u8 (Int.ofNat g.9)) ::
  Value.int IntKind.u8 (0 : Int) :: Value.int IntKind.u8 (8 : Int) :: Value.int IntKind.u8 (0 : Int) :: Value.int IntKind.u8 (0 : Int) :: Value.int IntKind.u8 (0 : Int) ::
  Value.int IntKind.u8 (1 : Int) :: ([] ++ List.take (g.9 * 1) (List.drop 0 (bCells g.8))))) true (Ob.cells true))) 0 (some 0))) (9 + g.9 - 9) 1] 3)) 0))) - 0) * 1 <=
  List.length (gCells (cellZ [Value.int IntKind.i64 (0 : Int), Value.int IntKind.i64 (8 : Int), Value.int IntKind.i64 (1 : Int), Value.slice (some (Addr.mk (yZ (Row.mk
  (List.take ((9 + g.9) * 1) (Value.int IntKind.u8 (IntKind.wrap IntKind.u8 (ishr IntKind.i64 (Int.ofNat g.9) (16 : Int))) :: Value.int IntKind.u8 (IntKind.wrap IntKind.u8
  (ishr IntKind.i64 (Int.ofNat g.9) (8 : Int))) :: Value.int IntKind.u8 (IntKind.wrap IntKind.u8 (Int.ofNat g.9)) :: Value.int IntKind.u8 (0 : Int) :: Value.int IntKind.u8
  (8 : Int) :: Value.int IntKind.u8 (0 : Int) :: Value.int IntKind.u8 (0 : Int) :: Value.int IntKind.u8 (0 : Int) :: Value.int IntKind.u8 (1 : Int) :: ([] ++ List.take (g.9
  * 1) (List.drop 0 (bCells g.8))))) true (Ob.cells true))) 0 (some 0))) (9 + g.9 - 9) 1] 3)))) (br (allOne (List.take ((Int.toNat (IntKind.wrap IntKind.i64 (Int.ofNat
  (Int.toNat (↑(cellN [Value.int IntKind.i64 (0 : Int), Value.int IntKind.i64 (8 : Int), Value.int IntKind.i64 (1 : Int), Value.slice (some (Addr.mk (yZ (Row.mk (List.take
  ((9 + g.9) * 1) (Value.int IntKind.u8 (IntKind.wrap IntKind.u8 (ishr IntKind.i64 (Int.ofNat g.9) (16 : Int))) :: Value.int IntKind.u8 (IntKind.wrap IntKind.u8 (ishr
  IntKind.i64 (Int.ofNat g.9) (8 : Int))) :: Value.int IntKind.u8 (IntKind.wrap IntKind.u8 (Int.ofNat g.9)) :: Value.int IntKind.u8 (0 : Int) :: Value.int IntKind.u8 (8 :
  Int) :: Value.int IntKind.u8 (0 : Int) :: Value.int IntKind.u8 (0 : Int) :: Value.int IntKind.u8 (0 : Int) :: Value.int IntKind.u8 (1 : Int) :: ([] ++ List.take (g.9 * 1)
  (List.drop 0 (bCells g.8))))) true (Ob.cells true))) 0 (some 0))) (9 + g.9 - 9) 1] 3) : Int) - 1) - IntKind.wrap IntKind.i64 (cellI (gCells (cellZ [Value.int IntKind.i64
  (0 : Int), Value.int IntKind.i64 (8 : Int), Value.int IntKind.i64 (1 : Int), Value.slice (some (Addr.mk (yZ (Row.mk (List.take ((9 + g.9) * 1) (Value.int IntKind.u8
  (IntKind.wrap IntKind.u8 (ishr IntKind.i64 (Int.ofNat g.9) (16 : Int))) :: Value.int IntKind.u8 (IntKind.wrap IntKind.u8 (ishr IntKind.i64 (Int.ofNat g.9) (8 : Int))) ::
  Value.int IntKind.u8 (IntKind.wrap IntKind.u8 (Int.ofNat g.9)) :: Value.int IntKind.u8 (0 : Int) :: Value.int IntKind.u8 (8 : Int) :: Value.int IntKind.u8 (0 : Int) ::
  Value.int IntKind.u8 (0 : Int) :: Value.int IntKind.u8 (0 : Int) :: Value.int IntKind.u8 (1 : Int) :: ([] ++ List.take (g.9 * 1) (List.drop 0 (bCells g.8))))) true
  (Ob.cells true))) 0 (some 0))) (9 + g.9 - 9) 1] 3)) 0))) - 0) * 1) (List.drop 1 (gCells (cellZ [Value.int IntKind.i64 (0 : Int), Value.int IntKind.i64 (8 : Int), Value.int
  IntKind.i64 (1 : Int), Value.slice (some (Addr.mk (yZ (Row.mk (List.take ((9 + g.9) * 1) (Value.int IntKind.u8 (IntKind.wrap IntKind.u8 (ishr IntKind.i64 (Int.ofNat g.9)
  (16 : Int))) :: Value.int IntKind.u8 (IntKind.wrap IntKind.u8 (ishr IntKind.i64 (Int.ofNat g.9) (8 : Int))) :: Value.int IntKind.u8 (IntKind.wrap IntKind.u8 (Int.ofNat
  g.9)) :: Value.int IntKind.u8 (0 : Int) :: Value.int IntKind.u8 (8 : Int) :: Value.int IntKind.u8 (0 : Int) :: Value.int IntKind.u8 (0 : Int) :: Value.int IntKind.u8 (0 :
  Int) :: Value.int IntKind.u8 (1 : Int) :: ([] ++ List.take (g.9 * 1) (List.drop 0 (bCells g.8))))) true (Ob.cells true))) 0 (some 0))) (9 + g.9 - 9) 1] 3))))) (br (decide
  (Int.toNat (IntKind.wrap IntKind.i64 (Int.ofNat (Int.toNat (↑(cellN [Value.int IntKind.i64 (0 : Int), Value.int IntKind.i64 (8 : Int), Value.int IntKind.i64 (1 : Int),
  Value.slice (some (Addr.mk (yZ (Row.mk (List.take ((9 + g.9) * 1) (Value.int IntKind.u8 (IntKind.wrap IntKind.u8 (ishr IntKind.i64 (Int.ofNat g.9) (16 : Int))) ::
  Value.int IntKind.u8 (IntKind.wrap IntKind.u8 (ishr IntKind.i64 (Int.ofNat g.9) (8 : Int))) :: Value.int IntKind.u8 (IntKind.wrap IntKind.u8 (Int.ofNat g.9)) :: Value.int
  IntKind.u8 (0 : Int) :: Value.int IntKind.u8 (8 : Int) :: Value.int IntKind.u8 (0 : Int) :: Value.int IntKind.u8 (0 : Int) :: Value.int IntKind.u8 (0 : Int) :: Value.int
  IntKind.u8 (1 : Int) :: ([] ++ List.take (g.9 * 1) (List.drop 0 (bCells g.8))))) true (Ob.cells true))) 0 (some 0))) (9 + g.9 - 9) 1] 3) : Int) - 1) - IntKind.wrap
  IntKind.i64 (cellI (gCells (cellZ [Value.int IntKind.i64 (0 : Int), Value.int IntKind.i64 (8 : Int), Value.int IntKind.i64 (1 : Int), Value.slice (some (Addr.mk (yZ
  (Row.mk (List.take ((9 + g.9) * 1) (Value.int IntKind.u8 (IntKind.wrap IntKind.u8 (ishr IntKind.i64 (Int.ofNat g.9) (16 : Int))) :: Value.int IntKind.u8 (IntKind.wrap
  IntKind.u8 (ishr IntKind.i64 (Int.ofNat g.9) (8 : Int))) :: Value.int IntKind.u8 (IntKind.wrap IntKind.u8 (Int.ofNat g.9)) :: Value.int IntKind.u8 (0 : Int) :: Value.int
  IntKind.u8 (8 : Int) :: Value.int IntKind.u8 (0 : Int) :: Value.int IntKind.u8 (0 : Int) :: Value.int IntKind.u8 (0 : Int) :: Value.int IntKind.u8 (1 : Int) :: ([] ++
  List.take (g.9 * 1) (List.drop 0 (bCells g.8))))) true (Ob.cells true))) 0 (some 0))) (9 + g.9 - 9) 1] 3)) 0))) - 0 <= 16777216)) (br (decide (Int.ofNat (cellN [Value.int
  IntKind.i64 (0 : Int), Value.int IntKind.i64 (8 : Int), Value.int IntKind.i64 (1 : Int), Value.slice (some (Addr.mk (yZ (Row.mk (List.take ((9 + g.9) * 1) (Value.int
  IntKind.u8 (IntKind.wrap IntKind.u8 (ishr IntKind.i64 (Int.ofNat g.9) (16 : Int))) :: Value.int IntKind.u8 (IntKind.wrap IntKind.u8 (ishr IntKind.i64 (Int.ofNat g.9) (8 :
  Int))) :: Value.int IntKind.u8 (IntKind.wrap IntKind.u8 (Int.ofNat g.9)) :: Value.int IntKind.u8 (0 : Int) :: Value.int IntKind.u8 (8 : Int) :: Value.int IntKind.u8 (0 :
  Int) :: Value.int IntKind.u8 (0 : Int) :: Value.int IntKind.u8 (0 : Int) :: Value.int IntKind.u8 (1 : Int) :: ([] ++ List.take (g.9 * 1) (List.drop 0 (bCells g.8))))) true
  (Ob.cells true))) 0 (some 0))) (9 + g.9 - 9) 1] 3) > (65535 : Int))) (br (veq 20 (Value.int IntKind.i64 (Int.ofNat (cellN [Value.int IntKind.i64 (0 : Int), Value.int
  IntKind.i64 (8 : Int), Value.int IntKind.i64 (1 : Int), Value.slice (some (Addr.mk (yZ (Row.mk (List.take ((9 + g.9) * 1) (Value.int IntKind.u8 (IntKind.wrap IntKind.u8
  (ishr IntKind.i64 (Int.ofNat g.9) (16 : Int))) :: Value.int IntKind.u8 (IntKind.wrap IntKind.u8 (ishr IntKind.i64 (Int.ofNat g.9) (8 : Int))) :: Value.int IntKind.u8
  (IntKind.wrap IntKind.u8 (Int.ofNat g.9)) :: Value.int IntKind.u8 (0 : Int) :: Value.int IntKind.u8 (8 : Int) :: Value.int IntKind.u8 (0 : Int) :: Value.int IntKind.u8 (0
  : Int) :: Value.int IntKind.u8 (0 : Int) :: Value.int IntKind.u8 (1 : Int) :: ([] ++ List.take (g.9 * 1) (List.drop 0 (bCells g.8))))) true (Ob.cells true))) 0 (some 0)))
  (9 + g.9 - 9) 1] 3))) (Value.int IntKind.i64 (Int.ofNat (cellN [Value.int IntKind.i64 (0 : Int), Value.int IntKind.i64 (8 : Int), Value.int IntKind.i64 (1 : Int),
  Value.slice (some (Addr.mk (yZ (Row.mk (List.take ((9 + g.9) * 1) (Value.int IntKind.u8 (IntKind.wrap IntKind.u8 (ishr IntKind.i64 (Int.ofNat g.9) (16 : Int))) ::
  Value.int IntKind.u8 (IntKind.wrap IntKind.u8 (ishr IntKind.i64 (Int.ofNat g.9) (8 : Int))) :: Value.int IntKind.u8 (IntKind.wrap IntKind.u8 (Int.ofNat g.9)) :: Value.int
  IntKind.u8 (0 : Int) :: Value.int IntKind.u8 (8 : Int) :: Value.int IntKind.u8 (0 : Int) :: Value.int IntKind.u8 (0 : Int) :: Value.int IntKind.u8 (0 : Int) :: Value.int
  IntKind.u8 (1 : Int) :: ([] ++ List.take (g.9 * 1) (List.drop 0 (bCells g.8))))) true (Ob.cells true))) 0 (some 0))) (9 + g.9 - 9) 1] 3)))) False False) (br (veq 20
  (Value.int IntKind.i64 (Int.ofNat (cellN [Value.int IntKind.i64 (0 : Int), Value.int IntKind.i64 (8 : Int), Value.int IntKind.i64 (1 : Int), Value.slice (some (Addr.mk (yZ
  (Row.mk (List.take ((9 + g.9) * 1) (Value.int IntKind.u8 (IntKind.wrap IntKind.u8 (ishr IntKind.i64 (Int.ofNat g.9) (16 : Int))) :: Value.int IntKind.u8 (IntKind.wrap
  IntKind.u8 (ishr IntKind.i64 (Int.ofNat g.9) (8 : Int))) :: Value.int IntKind.u8 (IntKind.wrap IntKind.u8 (Int.ofNat g.9)) :: Value.int IntKind.u8 (0 : Int) :: Value.int
  IntKind.u8 (8 : Int) :: Value.int IntKind.u8 (0 : Int) :: Value.int IntKind.u8 (0 : Int) :: Value.int IntKind.u8 (0 : Int) :: Value.int IntKind.u8 (1 : Int) :: ([] ++
  List.take (g.9 * 1) (List.drop 0 (bCells g.8))))) true (Ob.cells true))) 0 (some 0))) (9 + g.9 - 9) 1] 3))) (Value.int IntKind.i64 (Int.ofNat (cellN [Value.int IntKind.i64
  (0 : Int), Value.int IntKind.i64 (8 : Int), Value.int IntKind.i64 (1 : Int), Value.slice (some (Addr.mk (yZ (Row.mk (List.take ((9 + g.9) * 1) (Value.int IntKind.u8
  (IntKind.wrap IntKind.u8 (ishr IntKind.i64 (Int.ofNat g.9) (16 : Int))) :: Value.int IntKind.u8 (IntKind.wrap IntKind.u8 (ishr IntKind.i64 (Int.ofNat g.9) (8 : Int))) ::
  Value.int IntKind.u8 (IntKind.wrap IntKind.u8 (Int.ofNat g.9)) :: Value.int IntKind.u8 (0 : Int) :: Value.int IntKind.u8 (8 : Int) :: Value.int IntKind.u8 (0 : Int) ::
  Value.int IntKind.u8 (0 : Int) :: Value.int IntKind.u8 (0 : Int) :: Value.int IntKind.u8 (1 : Int) :: ([] ++ List.take (g.9 * 1) (List.drop 0 (bCells g.8))))) true
  (Ob.cells true))) 0 (some 0))) (9 + g.9 - 9) 1] 3)))) ((Eq (α := Option Value) (some (Value.int IntKind.i64 (1 : Int))) (some (Value.int IntKind.i64 (1 : Int)))) /\ (br
  (Int.ofNat (cellN [Value.int IntKind.i64 (0 : Int), Value.int IntKind.i64 (8 : Int), Value.int IntKind.i64 (1 : Int), Value.slice (some (Addr.mk (yZ (Row.mk (List.take ((9
  + g.9) * 1) (Value.int IntKind.u8 (IntKind.wrap IntKind.u8 (ishr IntKind.i64 (Int.ofNat g.9) (16 : Int))) :: Value.int IntKind.u8 (IntKind.wrap IntKind.u8 (ishr
  IntKind.i64 (Int.ofNat g.9) (8 : Int))) :: Value.int IntKind.u8 (IntKind.wrap IntKind.u8 (Int.ofNat g.9)) :: Value.int IntKind.u8 (0 : Int) :: Value.int IntKind.u8 (8 :
  Int) :: Value.int IntKind.u8 (0 : Int) :: Value.int IntKind.u8 (0 : Int) :: Value.int IntKind.u8 (0 : Int) :: Value.int IntKind.u8 (1 : Int) :: ([] ++ List.take (g.9 * 1)
  (List.drop 0 (bCells g.8))))) true (Ob.cells true))) 0 (some 0))) (9 + g.9 - 9) 1] 3) == (0 : Int)) ((((True /\ (True /\ True)) /\ (((True /\ (True /\ (True /\ (True /\
  (True /\ (True /\ (True /\ (True /\ (True /\ (True /\ (True /\ (True /\ (True /\ (True /\ (True /\ (True /\ (True /\ (True /\ (True /\ (True /\ (True /\ (True /\ (True /\
  (True /\ (True /\ (True /\ (True /\ (True /\ True)))))))))))))))))))))))))))) /\ (Plain (bCells g.3) /\ ((True /\ (True /\ (True /\ (True /\ (True /\ (True /\ True))))))
  /\ ((True /\ (True /\ (True /\ (True /\ True)))) /\ ((True /\ (True /\ (True /\ True))) /\ (Plain [Value.int IntKind.i64 (1 : Int)] /\ (Plain (bCells (yP (Row.mk
  (List.take ((9 + g.9) * 1) (Value.int IntKind.u8 (IntKind.wrap IntKind.u8 (ishr IntKind.i64 (Int.ofNat g.9) (16 : Int))) :: Value.int IntKind.u8 (IntKind.wrap IntKind.u8
  (ishr IntKind.i64 (Int.ofNat g.9) (8 : Int))) :: Value.int IntKind.u8 (IntKind.wrap IntKind.u8 (Int.ofNat g.9)) :: Value.int IntKind.u8 (0 : Int) :: Value.int IntKind.u8
  (8 : Int) :: Value.int IntKind.u8 (0 : Int) :: Value.int IntKind.u8 (0 : Int) :: Value.int IntKind.u8 (0 : Int) :: Value.int IntKind.u8 (1 : Int) :: ([] ++ List.take (g.9
  * 1) (List.drop 0 (bCells g.8))))) true (Ob.cells true)))) /\ ((True /\ (True /\ (True /\ True))) /\ ((True /\ (True /\ (True /\ True))) /\ True))))))))) /\ ((Plain
  (bCells g.3) /\ (Plain [Value.int IntKind.i64 (1 : Int)] /\ (Plain (bCells (yP (Row.mk (List.take ((9 + g.9) * 1) (Value.int IntKind.u8 (IntKind.wrap IntKind.u8 (ishr
  IntKind.i64 (Int.ofNat g.9) (16 : Int))) :: Value.int IntKind.u8 (IntKind.wrap IntKind.u8 (ishr IntKind.i64 (Int.ofNat g.9) (8 : Int))) :: Value.int IntKind.u8
  (IntKind.wrap IntKind.u8 (Int.ofNat g.9)) :: Value.int IntKind.u8 (0 : Int) :: Value.int IntKind.u8 (8 : Int) :: Value.int IntKind.u8 (0 : Int) :: Value.int IntKind.u8 (0
  : Int) :: Value.int IntKind.u8 (0 : Int) :: Value.int IntKind.u8 (1 : Int) :: ([] ++ List.take (g.9 * 1) (List.drop 0 (bCells g.8))))) true (Ob.cells true)))) /\ (Plain
  (bCells (woZ (Row.mk (bCells g.3) false (Ob.cells true)) g.4)) /\ True)))) /\ (Row.mk [Value.bool true, Value.int IntKind.i64 (2 : Int), Value.int IntKind.i64 (65535 :
  Int), Value.int IntKind.i64 (65536 : Int), Value.int IntKind.i64 (4096 : Int), Value.int IntKind.i64 (2147483647 : Int), Value.int IntKind.i64 (65535 : Int), Value.int
  IntKind.i64 (16384 : Int), Value.int IntKind.i64 (2147483647 : Int), Value.slice (some (Addr.mk 1 g.4 none)) g.5 1, Value.pointer (some (Addr.mk 2 0 none)), Value.pointer
  (some (Addr.mk 3 0 none)), Value.pointer (some (Addr.mk 4 0 none)), Value.int IntKind.i64 (65535 : Int), Value.int IntKind.i64 (IntKind.wrap IntKind.i64 ((65535 : Int) -
  Int.ofNat (cellN [Value.int IntKind.i64 (0 : Int), Value.int IntKind.i64 (8 : Int), Value.int IntKind.i64 (1 : Int), Value.slice (some (Addr.mk (yZ (Row.mk (List.take ((9
  + g.9) * 1) (Value.int IntKind.u8 (IntKind.wrap IntKind.u8 (ishr IntKind.i64 (Int.ofNat g.9) (16 : Int))) :: Value.int IntKind.u8 (IntKind.wrap IntKind.u8 (ishr
  IntKind.i64 (Int.ofNat g.9) (8 : Int))) :: Value.int IntKind.u8 (IntKind.wrap IntKind.u8 (Int.ofNat g.9)) :: Value.int IntKind.u8 (0 : Int) :: Value.int IntKind.u8 (8 :
  Int) :: Value.int IntKind.u8 (0 : Int) :: Value.int IntKind.u8 (0 : Int) :: Value.int IntKind.u8 (0 : Int) :: Value.int IntKind.u8 (1 : Int) :: ([] ++ List.take (g.9 * 1)
  (List.drop 0 (bCells g.8))))) true (Ob.cells true))) 0 (some 0))) (9 + g.9 - 9) 1] 3))), Value.slice none 0 0, Value.slice (some (Addr.mk 5 0 none)) 1 1, Value.int
  IntKind.i64 (1 : Int), Value.int IntKind.i64 (1 : Int), Value.bool true, Value.bool false, Value.bool false, Value.bool false, Value.bool false, Value.int IntKind.i64 (0 :
  Int), Value.slice none 0 0, Value.bool false, Value.slice none 0 0] false (Ob.cells false) = Row.mk [Value.bool true, Value.int IntKind.i64 (2 : Int), Value.int
  IntKind.i64 (65535 : Int), Value.int IntKind.i64 (65536 : Int), Value.int IntKind.i64 (4096 : Int), Value.int IntKind.i64 (2147483647 : Int), Value.int IntKind.i64 (65535
  : Int), Value.int IntKind.i64 (16384 : Int), Value.int IntKind.i64 (2147483647 : Int), Value.slice (some (Addr.mk 1 g.4 none)) g.5 1, Value.pointer (some (Addr.mk 2 0
  none)), Value.pointer (some (Addr.mk 3 0 none)), Value.pointer (some (Addr.mk 4 0 none)), Value.int IntKind.i64 (65535 : Int), Value.int IntKind.i64 (65535 : Int),
  Value.slice none 0 0, Value.slice (some (Addr.mk 5 0 none)) 1 1, Value.int IntKind.i64 (1 : Int), Value.int IntKind.i64 (1 : Int), Value.bool true, Value.bool false,
  Value.bool false, Value.bool false, Value.bool false, Value.int IntKind.i64 (0 : Int), Value.slice none 0 0, Value.bool false, Value.slice none 0 0] false (Ob.cells false)
  /\ (OkQ (Row.mk (bCells g.3) false (Ob.cells true)) g.4 g.5 (1048576 : Int) /\ ((0 = 0 /\ ((16384 : Int) = (16384 : Int) /\ (ByteArray.mk #[] = ByteArray.mk #[] /\ ((0 :
  Int) = (0 : Int) /\ ((0 : Int) = (0 : Int) /\ (0 : Int) = (0 : Int)))))) /\ (Row.mk [Value.pointer (some (Addr.mk 7 0 none)), Value.int IntKind.i64 (4096 : Int), Value.int
  IntKind.i64 (65536 : Int), Value.bool false] false (Ob.cells false) = Row.mk [Value.pointer (some (Addr.mk 7 0 none)), Value.int IntKind.i64 (4096 : Int), Value.int
  IntKind.i64 (65536 : Int), Value.bool false] false (Ob.cells false) /\ (Row.mk [Value.pointer (some (Addr.mk 8 0 none)), Value.bool false, Value.int IntKind.i64 (0 : Int)]
  false (Ob.cells false) = Row.mk [Value.pointer (some (Addr.mk 8 0 none)), Value.bool false, Value.int IntKind.i64 (0 : Int)] false (Ob.cells false) /\ (Row.mk [Value.int
  IntKind.i64 (1 : Int)] false (Ob.cells true) = Row.mk [Value.int IntKind.i64 (1 : Int)] false (Ob.cells true) /\ (OkL (Row.mk (bCells (yP (Row.mk (List.take ((9 + g.9) *
  1) (Value.int IntKind.u8 (IntKind.wrap IntKind.u8 (ishr IntKind.i64 (Int.ofNat g.9) (16 : Int))) :: Value.int IntKind.u8 (IntKind.wrap IntKind.u8 (ishr IntKind.i64
  (Int.ofNat g.9) (8 : Int))) :: Value.int IntKind.u8 (IntKind.wrap IntKind.u8 (Int.ofNat g.9)) :: Value.int IntKind.u8 (0 : Int) :: Value.int IntKind.u8 (8 : Int) ::
  Value.int IntKind.u8 (0 : Int) :: Value.int IntKind.u8 (0 : Int) :: Value.int IntKind.u8 (0 : Int) :: Value.int IntKind.u8 (1 : Int) :: ([] ++ List.take (g.9 * 1)
  (List.drop 0 (bCells g.8))))) true (Ob.cells true)))) false (Ob.cells true)) /\ (Row.mk [Value.slice none 0 0, Value.int IntKind.i64 (0 : Int), Value.int IntKind.i64 (4096
  : Int)] false (Ob.cells false) = Row.mk [Value.slice none 0 0, Value.int IntKind.i64 (0 : Int), Value.int IntKind.i64 (4096 : Int)] false (Ob.cells false) /\ Row.mk
  [Value.slice none 0 0, Value.int IntKind.i64 (0 : Int), Value.int IntKind.i64 (4096 : Int)] false (Ob.cells false) = Row.mk [Value.slice none 0 0, Value.int IntKind.i64 (0
  : Int), Value.int IntKind.i64 (4096 : Int)] false (Ob.cells false))))))))))))) /\ (∃ y : Unit, ((True) /\ (((↑(UInt8.toNat g.1) : Int) = (↑(UInt8.toNat g.1) : Int)) /\ ((0
  = 0) /\ (((↑g.2 : Int) = (↑g.2 : Int)) /\ ((true = true) /\ (((2 : Int) = (2 : Int)) /\ (((65535 : Int) = (65535 : Int)) /\ (((65536 : Int) = (65536 : Int)) /\ (((4096 :
  Int) = (4096 : Int)) /\ (((2147483647 : Int) = (2147483647 : Int)) /\ (((65535 : Int) = (65535 : Int)) /\ (((16384 : Int) = (16384 : Int)) /\ (((2147483647 : Int) =
  (2147483647 : Int)) /\ ((g.5 + 13 = 0 + (g.4 + g.5)) /\ ((0 = 0) /\ ((0 = 0) /\ ((0 = 0) /\ ((0 = 0) /\ (((65535 : Int) = (65535 : Int)) /\ (((65535 : Int) = (65535 :
  Int)) /\ ((0 = 0) /\ ((1 = 1) /\ (((1 : Int) = (1 : Int)) /\ (((1 : Int) = (1 : Int)) /\ ((true = true) /\ ((false = false) /\ ((false = false) /\ ((false = false) /\
  ((false = false) /\ (((0 : Int) = (0 : Int)) /\ ((false = false) /\ ((Eq (α := List Value) (bCells (List.take g.5 (List.drop g.4 g.3) ++ [0, 0, 4, 8, 0, 0, 0, 0, 0, by8
  (ishr IntKind.i64 (↑g.9 : Int) (24 : Int)), by8 (ishr IntKind.i64 (↑g.9 : Int) (16 : Int)), by8 (ishr IntKind.i64 (↑g.9 : Int) (8 : Int)), by8 (↑g.9 : Int)])) (bCells
  g.3)) /\ ((Plain (bCells (List.take g.5 (List.drop g.4 g.3) ++ [0, 0, 4, 8, 0, 0, 0, 0, 0, by8 (ishr IntKind.i64 (↑g.9 : Int) (24 : Int)), by8 (ishr IntKind.i64 (↑g.9 :
  Int) (16 : Int)), by8 (ishr IntKind.i64 (↑g.9 : Int) (8 : Int)), by8 (↑g.9 : Int)]))) /\ ((9 + g.9 = 0 + (0 + (9 + g.9))) /\ ((0 = 0) /\ (((16384 : Int) = (16384 : Int))
  /\ ((ByteArray.mk #[] = ByteArray.mk #[]) /\ (((0 : Int) = (0 : Int)) /\ (((0 : Int) = (0 : Int)) /\ (((0 : Int) = (0 : Int)) /\ ((Eq (α := List Value) (Value.int
  IntKind.u8 (↑(UInt8.toNat (by8 (ishr IntKind.i64 (↑(List.length g.8) : Int) (16 : Int)))) : Int) :: Value.int IntKind.u8 (↑(UInt8.toNat (by8 (ishr IntKind.i64
  (↑(List.length g.8) : Int) (8 : Int)))) : Int) :: Value.int IntKind.u8 (↑(UInt8.toNat (by8 (↑(List.length g.8) : Int))) : Int) :: Value.int IntKind.u8 (0 : Int) ::
  Value.int IntKind.u8 (8 : Int) :: Value.int IntKind.u8 (0 : Int) :: Value.int IntKind.u8 (0 : Int) :: Value.int IntKind.u8 (0 : Int) :: Value.int IntKind.u8 (1 : Int) ::
  List.map bVal ([] ++ g.8)) (bCells (yP (Row.mk (List.take ((9 + g.9) * 1) (Value.int IntKind.u8 (IntKind.wrap IntKind.u8 (ishr IntKind.i64 (Int.ofNat g.9) (16 : Int))) ::
  Value.int IntKind.u8 (IntKind.wrap IntKind.u8 (ishr IntKind.i64 (Int.ofNat g.9) (8 : Int))) :: Value.int IntKind.u8 (IntKind.wrap IntKind.u8 (Int.ofNat g.9)) :: Value.int
  IntKind.u8 (0 : Int) :: Value.int IntKind.u8 (8 : Int) :: Value.int IntKind.u8 (0 : Int) :: Value.int IntKind.u8 (0 : Int) :: Value.int IntKind.u8 (0 : Int) :: Value.int
  IntKind.u8 (1 : Int) :: ([] ++ List.take (g.9 * 1) (List.drop 0 (bCells g.8))))) true (Ob.cells true))))) /\ ((Plain (Value.int IntKind.u8 (↑(UInt8.toNat (by8 (ishr
  IntKind.i64 (↑(List.length g.8) : Int) (16 : Int)))) : Int) :: Value.int IntKind.u8 (↑(UInt8.toNat (by8 (ishr IntKind.i64 (↑(List.length g.8) : Int) (8 : Int)))) : Int) ::
  Value.int IntKind.u8 (↑(UInt8.toNat (by8 (↑(List.length g.8) : Int))) : Int) :: Value.int IntKind.u8 (0 : Int) :: Value.int IntKind.u8 (8 : Int) :: Value.int IntKind.u8 (0
  : Int) :: Value.int IntKind.u8 (0 : Int) :: Value.int IntKind.u8 (0 : Int) :: Value.int IntKind.u8 (1 : Int) :: List.map bVal ([] ++ g.8))) /\ ((0 = 0) /\ (((4096 : Int) =
  (4096 : Int)) /\ (((65536 : Int) = (65536 : Int)) /\ ((false = false) /\ ((0 = 0) /\ ((false = false) /\ (((0 : Int) = (0 : Int)) /\ ((Eq (α := List Value) ([Value.int
  IntKind.i64 (1 : Int)]) ([Value.int IntKind.i64 (1 : Int)])) /\ ((Plain [Value.int IntKind.i64 (1 : Int)]) /\ (((0 : Int) = (0 : Int)) /\ (((4096 : Int) = (4096 : Int)) /\
  (((0 : Int) = (0 : Int)) /\ (((4096 : Int) = (4096 : Int)) /\ True))))))))))))))))))))))))))))))))))))))))))))))))))))))))) (((((True /\ (True /\ (True /\ ((4 <= 4 /\
  Plain [Value.int IntKind.u8 (IntKind.wrap IntKind.u8 (ishr IntKind.i64 (Int.ofNat (cellN [Value.int IntKind.i64 (0 : Int), Value.int IntKind.i64 (8 : Int), Value.int
  IntKind.i64 (1 : Int), Value.slice (some (Addr.mk (yZ (Row.mk (List.take ((9 + g.9) * 1) (Value.int IntKind.u8 (IntKind.wrap IntKind.u8 (ishr IntKind.i64 (Int.ofNat g.9)
  (16 : Int))) :: Value.int IntKind.u8 (IntKind.wrap IntKind.u8 (ishr IntKind.i64 (Int.ofNat g.9) (8 : Int))) :: Value.int IntKind.u8 (IntKind.wrap IntKind.u8 (Int.ofNat
  g.9)) :: Value.int IntKind.u8 (0 : Int) :: Value.int IntKind.u8 (8 : Int) :: Value.int IntKind.u8 (0 : Int) :: Value.int IntKind.u8 (0 : Int) :: Value.int IntKind.u8 (0 :
  Int) :: Value.int IntKind.u8 (1 : Int) :: ([] ++ List.take (g.9 * 1) (List.drop 0 (bCells g.8))))) true (Ob.cells true))) 0 (some 0))) (9 + g.9 - 9) 1] 3)) (24 : Int))),
  Value.int IntKind.u8 (IntKind.wrap IntKind.u8 (ishr IntKind.i64 (Int.ofNat (cellN [Value.int IntKind.i64 (0 : Int), Value.int IntKind.i64 (8 : Int), Value.int IntKind.i64
  (1 : Int), Value.slice (some (Addr.mk (yZ (Row.mk (List.take ((9 + g.9) * 1) (Value.int IntKind.u8 (IntKind.wrap IntKind.u8 (ishr IntKind.i64 (Int.ofNat g.9) (16 : Int)))
  :: Value.int IntKind.u8 (IntKind.wrap IntKind.u8 (ishr IntKind.i64 (Int.ofNat g.9) (8 : Int))) :: Value.int IntKind.u8 (IntKind.wrap IntKind.u8 (Int.ofNat g.9)) ::
  Value.int IntKind.u8 (0 : Int) :: Value.int IntKind.u8 (8 : Int) :: Value.int IntKind.u8 (0 : Int) :: Value.int IntKind.u8 (0 : Int) :: Value.int IntKind.u8 (0 : Int) ::
  Value.int IntKind.u8 (1 : Int) :: ([] ++ List.take (g.9 * 1) (List.drop 0 (bCells g.8))))) true (Ob.cells true))) 0 (some 0))) (9 + g.9 - 9) 1] 3)) (16 : Int))), Value.int
  IntKind.u8 (IntKind.wrap IntKind.u8 (ishr IntKind.i64 (Int.ofNat (cellN [Value.int IntKind.i64 (0 : Int), Value.int IntKind.i64 (8 : Int), Value.int IntKind.i64 (1 : Int),
  Value.slice (some (Addr.mk (yZ (Row.mk (List.take ((9 + g.9) * 1) (Value.int IntKind.u8 (IntKind.wrap IntKind.u8 (ishr IntKind.i64 (Int.ofNat g.9) (16 : Int))) ::
  Value.int IntKind.u8 (IntKind.wrap IntKind.u8 (ishr IntKind.i64 (Int.ofNat g.9) (8 : Int))) :: Value.int IntKind.u8 (IntKind.wrap IntKind.u8 (Int.ofNat g.9)) :: Value.int
  IntKind.u8 (0 : Int) :: Value.int IntKind.u8 (8 : Int) :: Value.int IntKind.u8 (0 : Int) :: Value.int IntKind.u8 (0 : Int) :: Value.int IntKind.u8 (0 : Int) :: Value.int
  IntKind.u8 (1 : Int) :: ([] ++ List.take (g.9 * 1) (List.drop 0 (bCells g.8))))) true (Ob.cells true))) 0 (some 0))) (9 + g.9 - 9) 1] 3)) (8 : Int))), Value.int IntKind.u8
  (IntKind.wrap IntKind.u8 (Int.ofNat (cellN [Value.int IntKind.i64 (0 : Int), Value.int IntKind.i64 (8 : Int), Value.int IntKind.i64 (1 : Int), Value.slice (some (Addr.mk
  (yZ (Row.mk (List.take ((9 + g.9) * 1) (Value.int IntKind.u8 (IntKind.wrap IntKind.u8 (ishr IntKind.i64 (Int.ofNat g.9) (16 : Int))) :: Value.int IntKind.u8 (IntKind.wrap
  IntKind.u8 (ishr IntKind.i64 (Int.ofNat g.9) (8 : Int))) :: Value.int IntKind.u8 (IntKind.wrap IntKind.u8 (Int.ofNat g.9)) :: Value.int IntKind.u8 (0 : Int) :: Value.int
  IntKind.u8 (8 : Int) :: Value.int IntKind.u8 (0 : Int) :: Value.int IntKind.u8 (0 : Int) :: Value.int IntKind.u8 (0 : Int) :: Value.int IntKind.u8 (1 : Int) :: ([] ++
  List.take (g.9 * 1) (List.drop 0 (bCells g.8))))) true (Ob.cells true))) 0 (some 0))) (9 + g.9 - 9) 1] 3)))]) /\ True)))) /\ True) /\ ((True /\ True) /\ (True /\ (IsB
  (Row.mk [Value.int IntKind.u8 (IntKind.wrap IntKind.u8 (ishr IntKind.i64 (Int.ofNat (cellN [Value.int IntKind.i64 (0 : Int), Value.int IntKind.i64 (8 : Int), Value.int
  IntKind.i64 (1 : Int), Value.slice (some (Addr.mk (yZ (Row.mk (List.take ((9 + g.9) * 1) (Value.int IntKind.u8 (IntKind.wrap IntKind.u8 (ishr IntKind.i64 (Int.ofNat g.9)
  (16 : Int))) :: Value.int IntKind.u8 (IntKind.wrap IntKind.u8 (ishr IntKind.i64 (Int.ofNat g.9) (8 : Int))) :: Value.int IntKind.u8 (IntKind.wrap IntKind.u8 (Int.ofNat
  g.9)) :: Value.int IntKind.u8 (0 : Int) :: Value.int IntKind.u8 (8 : Int) :: Value.int IntKind.u8 (0 : Int) :: Value.int IntKind.u8 (0 : Int) :: Value.int IntKind.u8 (0 :
  Int) :: Value.int IntKind.u8 (1 : Int) :: ([] ++ List.take (g.9 * 1) (List.drop 0 (bCells g.8))))) true (Ob.cells true))) 0 (some 0))) (9 + g.9 - 9) 1] 3)) (24 : Int))),
  Value.int IntKind.u8 (IntKind.wrap IntKind.u8 (ishr IntKind.i64 (Int.ofNat (cellN [Value.int IntKind.i64 (0 : Int), Value.int IntKind.i64 (8 : Int), Value.int IntKind.i64
  (1 : Int), Value.slice (some (Addr.mk (yZ (Row.mk (List.take ((9 + g.9) * 1) (Value.int IntKind.u8 (IntKind.wrap IntKind.u8 (ishr IntKind.i64 (Int.ofNat g.9) (16 : Int)))
  :: Value.int IntKind.u8 (IntKind.wrap IntKind.u8 (ishr IntKind.i64 (Int.ofNat g.9) (8 : Int))) :: Value.int IntKind.u8 (IntKind.wrap IntKind.u8 (Int.ofNat g.9)) ::
  Value.int IntKind.u8 (0 : Int) :: Value.int IntKind.u8 (8 : Int) :: Value.int IntKind.u8 (0 : Int) :: Value.int IntKind.u8 (0 : Int) :: Value.int IntKind.u8 (0 : Int) ::
  Value.int IntKind.u8 (1 : Int) :: ([] ++ List.take (g.9 * 1) (List.drop 0 (bCells g.8))))) true (Ob.cells true))) 0 (some 0))) (9 + g.9 - 9) 1] 3)) (16 : Int))), Value.int
  IntKind.u8 (IntKind.wrap IntKind.u8 (ishr IntKind.i64 (Int.ofNat (cellN [Value.int IntKind.i64 (0 : Int), Value.int IntKind.i64 (8 : Int), Value.int IntKind.i64 (1 : Int),
  Value.slice (some (Addr.mk (yZ (Row.mk (List.take ((9 + g.9) * 1) (Value.int IntKind.u8 (IntKind.wrap IntKind.u8 (ishr IntKind.i64 (Int.ofNat g.9) (16 : Int))) ::
  Value.int IntKind.u8 (IntKind.wrap IntKind.u8 (ishr IntKind.i64 (Int.ofNat g.9) (8 : Int))) :: Value.int IntKind.u8 (IntKind.wrap IntKind.u8 (Int.ofNat g.9)) :: Value.int
  IntKind.u8 (0 : Int) :: Value.int IntKind.u8 (8 : Int) :: Value.int IntKind.u8 (0 : Int) :: Value.int IntKind.u8 (0 : Int) :: Value.int IntKind.u8 (0 : Int) :: Value.int
  IntKind.u8 (1 : Int) :: ([] ++ List.take (g.9 * 1) (List.drop 0 (bCells g.8))))) true (Ob.cells true))) 0 (some 0))) (9 + g.9 - 9) 1] 3)) (8 : Int))), Value.int IntKind.u8
  (IntKind.wrap IntKind.u8 (Int.ofNat (cellN [Value.int IntKind.i64 (0 : Int), Value.int IntKind.i64 (8 : Int), Value.int IntKind.i64 (1 : Int), Value.slice (some (Addr.mk
  (yZ (Row.mk (List.take ((9 + g.9) * 1) (Value.int IntKind.u8 (IntKind.wrap IntKind.u8 (ishr IntKind.i64 (Int.ofNat g.9) (16 : Int))) :: Value.int IntKind.u8 (IntKind.wrap
  IntKind.u8 (ishr IntKind.i64 (Int.ofNat g.9) (8 : Int))) :: Value.int IntKind.u8 (IntKind.wrap IntKind.u8 (Int.ofNat g.9)) :: Value.int IntKind.u8 (0 : Int) :: Value.int
  IntKind.u8 (8 : Int) :: Value.int IntKind.u8 (0 : Int) :: Value.int IntKind.u8 (0 : Int) :: Value.int IntKind.u8 (0 : Int) :: Value.int IntKind.u8 (1 : Int) :: ([] ++
  List.take (g.9 * 1) (List.drop 0 (bCells g.8))))) true (Ob.cells true))) 0 (some 0))) (9 + g.9 - 9) 1] 3)))] true (Ob.cells true)) 4 /\ true = true))))) /\ (br (decide
  (IntKind.wrap IntKind.i64 (Int.ofNat g.5 + (13 : Int)) > (262144 : Int))) False (br (decide (g.5 + 13 <= 16777216)) (br (decide (g.4 + g.5 * 1 <= List.length (bCells
  g.3))) (br (decide (Int.ofNat (cellN [Value.int IntKind.i64 (0 : Int), Value.int IntKind.i64 (8 : Int), Value.int IntKind.i64 (1 : Int), Value.slice (some (Addr.mk (yZ
  (Row.mk (List.take ((9 + g.9) * 1) (Value.int IntKind.u8 (IntKind.wrap IntKind.u8 (ishr IntKind.i64 (Int.ofNat g.9) (16 : Int))) :: Value.int IntKind.u8 (IntKind.wrap
  IntKind.u8 (ishr IntKind.i64 (Int.ofNat g.9) (8 : Int))) :: Value.int IntKind.u8 (IntKind.wrap IntKind.u8 (Int.ofNat g.9)) :: Value.int IntKind.u8 (0 : Int) :: Value.int
  IntKind.u8 (8 : Int) :: Value.int IntKind.u8 (0 : Int) :: Value.int IntKind.u8 (0 : Int) :: Value.int IntKind.u8 (0 : Int) :: Value.int IntKind.u8 (1 : Int) :: ([] ++
  List.take (g.9 * 1) (List.drop 0 (bCells g.8))))) true (Ob.cells true))) 0 (some 0))) (9 + g.9 - 9) 1] 3) > (2147483647 : Int))) ((((True /\ (True /\ True)) /\ (((True /\
  (True /\ (True /\ (True /\ (True /\ (True /\ (True /\ (True /\ (True /\ (True /\ (True /\ (True /\ (True /\ (True /\ (True /\ (True /\ (True /\ (True /\ (True /\ (True /\
  (True /\ (True /\ (True /\ (True /\ (True /\ (True /\ (True /\ (True /\ True)))))))))))))))))))))))))))) /\ (Plain (List.take (g.5 * 1) (List.drop g.4 (bCells g.3)) ++
  [Value.int IntKind.u8 (0 : Int), Value.int IntKind.u8 (0 : Int), Value.int IntKind.u8 (4 : Int), Value.int IntKind.u8 (8 : Int), Value.int IntKind.u8 (0 : Int), Value.int
  IntKind.u8 (0 : Int), Value.int IntKind.u8 (0 : Int), Value.int IntKind.u8 (0 : Int), Value.int IntKind.u8 (0 : Int), Value.int IntKind.u8 (IntKind.wrap IntKind.u8 (ishr
  IntKind.i64 (Int.ofNat (cellN [Value.int IntKind.i64 (0 : Int), Value.int IntKind.i64 (8 : Int), Value.int IntKind.i64 (1 : Int), Value.slice (some (Addr.mk (yZ (Row.mk
  (List.take ((9 + g.9) * 1) (Value.int IntKind.u8 (IntKind.wrap IntKind.u8 (ishr IntKind.i64 (Int.ofNat g.9) (16 : Int))) :: Value.int IntKind.u8 (IntKind.wrap IntKind.u8
  (ishr IntKind.i64 (Int.ofNat g.9) (8 : Int))) :: Value.int IntKind.u8 (IntKind.wrap IntKind.u8 (Int.ofNat g.9)) :: Value.int IntKind.u8 (0 : Int) :: Value.int IntKind.u8
  (8 : Int) :: Value.int IntKind.u8 (0 : Int) :: Value.int IntKind.u8 (0 : Int) :: Value.int IntKind.u8 (0 : Int) :: Value.int IntKind.u8 (1 : Int) :: ([] ++ List.take (g.9
  * 1) (List.drop 0 (bCells g.8))))) true (Ob.cells true))) 0 (some 0))) (9 + g.9 - 9) 1] 3)) (24 : Int))), Value.int IntKind.u8 (IntKind.wrap IntKind.u8 (ishr IntKind.i64
  (Int.ofNat (cellN [Value.int IntKind.i64 (0 : Int), Value.int IntKind.i64 (8 : Int), Value.int IntKind.i64 (1 : Int), Value.slice (some (Addr.mk (yZ (Row.mk (List.take ((9
  + g.9) * 1) (Value.int IntKind.u8 (IntKind.wrap IntKind.u8 (ishr IntKind.i64 (Int.ofNat g.9) (16 : Int))) :: Value.int IntKind.u8 (IntKind.wrap IntKind.u8 (ishr
  IntKind.i64 (Int.ofNat g.9) (8 : Int))) :: Value.int IntKind.u8 (IntKind.wrap IntKind.u8 (Int.ofNat g.9)) :: Value.int IntKind.u8 (0 : Int) :: Value.int IntKind.u8 (8 :
  Int) :: Value.int IntKind.u8 (0 : Int) :: Value.int IntKind.u8 (0 : Int) :: Value.int IntKind.u8 (0 : Int) :: Value.int IntKind.u8 (1 : Int) :: ([] ++ List.take (g.9 * 1)
  (List.drop 0 (bCells g.8))))) true (Ob.cells true))) 0 (some 0))) (9 + g.9 - 9) 1] 3)) (16 : Int))), Value.int IntKind.u8 (IntKind.wrap IntKind.u8 (ishr IntKind.i64
  (Int.ofNat (cellN [Value.int IntKind.i64 (0 : Int), Value.int IntKind.i64 (8 : Int), Value.int IntKind.i64 (1 : Int), Value.slice (some (Addr.mk (yZ (Row.mk (List.take ((9
  + g.9) * 1) (Value.int IntKind.u8 (IntKind.wrap IntKind.u8 (ishr IntKind.i64 (Int.ofNat g.9) (16 : Int))) :: Value.int IntKind.u8 (IntKind.wrap IntKind.u8 (ishr
  IntKind.i64 (Int.ofNat g.9) (8 : Int))) :: Value.int IntKind.u8 (IntKind.wrap IntKind.u8 (Int.ofNat g.9)) :: Value.int IntKind.u8 (0 : Int) :: Value.int IntKind.u8 (8 :
  Int) :: Value.int IntKind.u8 (0 : Int) :: Value.int IntKind.u8 (0 : Int) :: Value.int IntKind.u8 (0 : Int) :: Value.int IntKind.u8 (1 : Int) :: ([] ++ List.take (g.9 * 1)
  (List.drop 0 (bCells g.8))))) true (Ob.cells true))) 0 (some 0))) (9 + g.9 - 9) 1] 3)) (8 : Int))), Value.int IntKind.u8 (IntKind.wrap IntKind.u8 (Int.ofNat (cellN
  [Value.int IntKind.i64 (0 : Int), Value.int IntKind.i64 (8 : Int), Value.int IntKind.i64 (1 : Int), Value.slice (some (Addr.mk (yZ (Row.mk (List.take ((9 + g.9) * 1)
  (Value.int IntKind.u8 (IntKind.wrap IntKind.u8 (ishr IntKind.i64 (Int.ofNat g.9) (16 : Int))) :: Value.int IntKind.u8 (IntKind.wrap IntKind.u8 (ishr IntKind.i64 (Int.ofNat
  g.9) (8 : Int))) :: Value.int IntKind.u8 (IntKind.wrap IntKind.u8 (Int.ofNat g.9)) :: Value.int IntKind.u8 (0 : Int) :: Value.int IntKind.u8 (8 : Int) :: Value.int
  IntKind.u8 (0 : Int) :: Value.int IntKind.u8 (0 : Int) :: Value.int IntKind.u8 (0 : Int) :: Value.int IntKind.u8 (1 : Int) :: ([] ++ List.take (g.9 * 1) (List.drop 0
  (bCells g.8))))) true (Ob.cells true))) 0 (some 0))) (9 + g.9 - 9) 1] 3)))]) /\ ((True /\ (True /\ (True /\ (True /\ (True /\ (True /\ True)))))) /\ ((True /\ (True /\
  (True /\ (True /\ True)))) /\ ((True /\ (True /\ (True /\ True))) /\ (Plain [Value.int IntKind.i64 (1 : Int)] /\ (Plain (bCells (yP (Row.mk (List.take ((9 + g.9) * 1)
  (Value.int IntKind.u8 (IntKind.wrap IntKind.u8 (ishr IntKind.i64 (Int.ofNat g.9) (16 : Int))) :: Value.int IntKind.u8 (IntKind.wrap IntKind.u8 (ishr IntKind.i64 (Int.ofNat
  g.9) (8 : Int))) :: Value.int IntKind.u8 (IntKind.wrap IntKind.u8 (Int.ofNat g.9)) :: Value.int IntKind.u8 (0 : Int) :: Value.int IntKind.u8 (8 : Int) :: Value.int
  IntKind.u8 (0 : Int) :: Value.int IntKind.u8 (0 : Int) :: Value.int IntKind.u8 (0 : Int) :: Value.int IntKind.u8 (1 : Int) :: ([] ++ List.take (g.9 * 1) (List.drop 0
  (bCells g.8))))) true (Ob.cells true)))) /\ ((True /\ (True /\ (True /\ True))) /\ ((True /\ (True /\ (True /\ True))) /\ True))))))))) /\ ((Plain (List.take (g.5 * 1)
  (List.drop g.4 (bCells g.3)) ++ [Value.int IntKind.u8 (0 : Int), Value.int IntKind.u8 (0 : Int), Value.int IntKind.u8 (4 : Int), Value.int IntKind.u8 (8 : Int), Value.int
  IntKind.u8 (0 : Int), Value.int IntKind.u8 (0 : Int), Value.int IntKind.u8 (0 : Int), Value.int IntKind.u8 (0 : Int), Value.int IntKind.u8 (0 : Int), Value.int IntKind.u8
  (IntKind.wrap IntKind.u8 (ishr IntKind.i64 (Int.ofNat (cellN [Value.int IntKind.i64 (0 : Int), Value.int IntKind.i64 (8 : Int), Value.int IntKind.i64 (1 : Int),
  Value.slice (some (Addr.mk (yZ (Row.mk (List.take ((9 + g.9) * 1) (Value.int IntKind.u8 (IntKind.wrap IntKind.u8 (ishr IntKind.i64 (Int.ofNat g.9) (16 : Int))) ::
  Value.int IntKind.u8 (IntKind.wrap IntKind.u8 (ishr IntKind.i64 (Int.ofNat g.9) (8 : Int))) :: Value.int IntKind.u8 (IntKind.wrap IntKind.u8 (Int.ofNat g.9)) :: Value.int
  IntKind.u8 (0 : Int) :: Value.int IntKind.u8 (8 : Int) :: Value.int IntKind.u8 (0 : Int) :: Value.int IntKind.u8 (0 : Int) :: Value.int IntKind.u8 (0 : Int) :: Value.int
  IntKind.u8 (1 : Int) :: ([] ++ List.take (g.9 * 1) (List.drop 0 (bCells g.8))))) true (Ob.cells true))) 0 (some 0))) (9 + g.9 - 9) 1] 3)) (24 : Int))), Value.int
  IntKind.u8 (IntKind.wrap IntKind.u8 (ishr IntKind.i64 (Int.ofNat (cellN [Value.int IntKind.i64 (0 : Int), Value.int IntKind.i64 (8 : Int), Value.int IntKind.i64 (1 : Int),
  Value.slice (some (Addr.mk (yZ (Row.mk (List.take ((9 + g.9) * 1) (Value.int IntKind.u8 (IntKind.wrap IntKind.u8 (ishr IntKind.i64 (Int.ofNat g.9) (16 : Int))) ::
  Value.int IntKind.u8 (IntKind.wrap IntKind.u8 (ishr IntKind.i64 (Int.ofNat g.9) (8 : Int))) :: Value.int IntKind.u8 (IntKind.wrap IntKind.u8 (Int.ofNat g.9)) :: Value.int
  IntKind.u8 (0 : Int) :: Value.int IntKind.u8 (8 : Int) :: Value.int IntKind.u8 (0 : Int) :: Value.int IntKind.u8 (0 : Int) :: Value.int IntKind.u8 (0 : Int) :: Value.int
  IntKind.u8 (1 : Int) :: ([] ++ List.take (g.9 * 1) (List.drop 0 (bCells g.8))))) true (Ob.cells true))) 0 (some 0))) (9 + g.9 - 9) 1] 3)) (16 : Int))), Value.int
  IntKind.u8 (IntKind.wrap IntKind.u8 (ishr IntKind.i64 (Int.ofNat (cellN [Value.int IntKind.i64 (0 : Int), Value.int IntKind.i64 (8 : Int), Value.int IntKind.i64 (1 : Int),
  Value.slice (some (Addr.mk (yZ (Row.mk (List.take ((9 + g.9) * 1) (Value.int IntKind.u8 (IntKind.wrap IntKind.u8 (ishr IntKind.i64 (Int.ofNat g.9) (16 : Int))) ::
  Value.int IntKind.u8 (IntKind.wrap IntKind.u8 (ishr IntKind.i64 (Int.ofNat g.9) (8 : Int))) :: Value.int IntKind.u8 (IntKind.wrap IntKind.u8 (Int.ofNat g.9)) :: Value.int
  IntKind.u8 (0 : Int) :: Value.int IntKind.u8 (8 : Int) :: Value.int IntKind.u8 (0 : Int) :: Value.int IntKind.u8 (0 : Int) :: Value.int IntKind.u8 (0 : Int) :: Value.int
  IntKind.u8 (1 : Int) :: ([] ++ List.take (g.9 * 1) (List.drop 0 (bCells g.8))))) true (Ob.cells true))) 0 (some 0))) (9 + g.9 - 9) 1] 3)) (8 : Int))), Value.int IntKind.u8
  (IntKind.wrap IntKind.u8 (Int.ofNat (cellN [Value.int IntKind.i64 (0 : Int), Value.int IntKind.i64 (8 : Int), Value.int IntKind.i64 (1 : Int), Value.slice (some (Addr.mk
  (yZ (Row.mk (List.take ((9 + g.9) * 1) (Value.int IntKind.u8 (IntKind.wrap IntKind.u8 (ishr IntKind.i64 (Int.ofNat g.9) (16 : Int))) :: Value.int IntKind.u8 (IntKind.wrap
  IntKind.u8 (ishr IntKind.i64 (Int.ofNat g.9) (8 : Int))) :: Value.int IntKind.u8 (IntKind.wrap IntKind.u8 (Int.ofNat g.9)) :: Value.int IntKind.u8 (0 : Int) :: Value.int
  IntKind.u8 (8 : Int) :: Value.int IntKind.u8 (0 : Int) :: Value.int IntKind.u8 (0 : Int) :: Value.int IntKind.u8 (0 : Int) :: Value.int IntKind.u8 (1 : Int) :: ([] ++
  List.take (g.9 * 1) (List.drop 0 (bCells g.8))))) true (Ob.cells true))) 0 (some 0))) (9 + g.9 - 9) 1] 3)))]) /\ (Plain [Value.int IntKind.i64 (1 : Int)] /\ (Plain (bCells
  (yP (Row.mk (List.take ((9 + g.9) * 1) (Value.int IntKind.u8 (IntKind.wrap IntKind.u8 (ishr IntKind.i64 (Int.ofNat g.9) (16 : Int))) :: Value.int IntKind.u8 (IntKind.wrap
  IntKind.u8 (ishr IntKind.i64 (Int.ofNat g.9) (8 : Int))) :: Value.int IntKind.u8 (IntKind.wrap IntKind.u8 (Int.ofNat g.9)) :: Value.int IntKind.u8 (0 : Int) :: Value.int
  IntKind.u8 (8 : Int) :: Value.int IntKind.u8 (0 : Int) :: Value.int IntKind.u8 (0 : Int) :: Value.int IntKind.u8 (0 : Int) :: Value.int IntKind.u8 (1 : Int) :: ([] ++
  List.take (g.9 * 1) (List.drop 0 (bCells g.8))))) true (Ob.cells true)))) /\ (Plain (bCells (woZ (Row.mk (List.take (g.5 * 1) (List.drop g.4 (bCells g.3)) ++ [Value.int
  IntKind.u8 (0 : Int), Value.int IntKind.u8 (0 : Int), Value.int IntKind.u8 (4 : Int), Value.int IntKind.u8 (8 : Int), Value.int IntKind.u8 (0 : Int), Value.int IntKind.u8
  (0 : Int), Value.int IntKind.u8 (0 : Int), Value.int IntKind.u8 (0 : Int), Value.int IntKind.u8 (0 : Int), Value.int IntKind.u8 (IntKind.wrap IntKind.u8 (ishr IntKind.i64
  (Int.ofNat (cellN [Value.int IntKind.i64 (0 : Int), Value.int IntKind.i64 (8 : Int), Value.int IntKind.i64 (1 : Int), Value.slice (some (Addr.mk (yZ (Row.mk (List.take ((9
  + g.9) * 1) (Value.int IntKind.u8 (IntKind.wrap IntKind.u8 (ishr IntKind.i64 (Int.ofNat g.9) (16 : Int))) :: Value.int IntKind.u8 (IntKind.wrap IntKind.u8 (ishr
  IntKind.i64 (Int.ofNat g.9) (8 : Int))) :: Value.int IntKind.u8 (IntKind.wrap IntKind.u8 (Int.ofNat g.9)) :: Value.int IntKind.u8 (0 : Int) :: Value.int IntKind.u8 (8 :
  Int) :: Value.int IntKind.u8 (0 : Int) :: Value.int IntKind.u8 (0 : Int) :: Value.int IntKind.u8 (0 : Int) :: Value.int IntKind.u8 (1 : Int) :: ([] ++ List.take (g.9 * 1)
  (List.drop 0 (bCells g.8))))) true (Ob.cells true))) 0 (some 0))) (9 + g.9 - 9) 1] 3)) (24 : Int))), Value.int IntKind.u8 (IntKind.wrap IntKind.u8 (ishr IntKind.i64
  (Int.ofNat (cellN [Value.int IntKind.i64 (0 : Int), Value.int IntKind.i64 (8 : Int), Value.int IntKind.i64 (1 : Int), Value.slice (some (Addr.mk (yZ (Row.mk (List.take ((9
  + g.9) * 1) (Value.int IntKind.u8 (IntKind.wrap IntKind.u8 (ishr IntKind.i64 (Int.ofNat g.9) (16 : Int))) :: Value.int IntKind.u8 (IntKind.wrap IntKind.u8 (ishr
  IntKind.i64 (Int.ofNat g.9) (8 : Int))) :: Value.int IntKind.u8 (IntKind.wrap IntKind.u8 (Int.ofNat g.9)) :: Value.int IntKind.u8 (0 : Int) :: Value.int IntKind.u8 (8 :
  Int) :: Value.int IntKind.u8 (0 : Int) :: Value.int IntKind.u8 (0 : Int) :: Value.int IntKind.u8 (0 : Int) :: Value.int IntKind.u8 (1 : Int) :: ([] ++ List.take (g.9 * 1)
  (List.drop 0 (bCells g.8))))) true (Ob.cells true))) 0 (some 0))) (9 + g.9 - 9) 1] 3)) (16 : Int))), Value.int IntKind.u8 (IntKind.wrap IntKind.u8 (ishr IntKind.i64
  (Int.ofNat (cellN [Value.int IntKind.i64 (0 : Int), Value.int IntKind.i64 (8 : Int), Value.int IntKind.i64 (1 : Int), Value.slice (some (Addr.mk (yZ (Row.mk (List.take ((9
  + g.9) * 1) (Value.int IntKind.u8 (IntKind.wrap IntKind.u8 (ishr IntKind.i64 (Int.ofNat g.9) (16 : Int))) :: Value.int IntKind.u8 (IntKind.wrap IntKind.u8 (ishr
  IntKind.i64 (Int.ofNat g.9) (8 : Int))) :: Value.int IntKind.u8 (IntKind.wrap IntKind.u8 (Int.ofNat g.9)) :: Value.int IntKind.u8 (0 : Int) :: Value.int IntKind.u8 (8 :
  Int) :: Value.int IntKind.u8 (0 : Int) :: Value.int IntKind.u8 (0 : Int) :: Value.int IntKind.u8 (0 : Int) :: Value.int IntKind.u8 (1 : Int) :: ([] ++ List.take (g.9 * 1)
  (List.drop 0 (bCells g.8))))) true (Ob.cells true))) 0 (some 0))) (9 + g.9 - 9) 1] 3)) (8 : Int))), Value.int IntKind.u8 (IntKind.wrap IntKind.u8 (Int.ofNat (cellN
  [Value.int IntKind.i64 (0 : Int), Value.int IntKind.i64 (8 : Int), Value.int IntKind.i64 (1 : Int), Value.slice (some (Addr.mk (yZ (Row.mk (List.take ((9 + g.9) * 1)
  (Value.int IntKind.u8 (IntKind.wrap IntKind.u8 (ishr IntKind.i64 (Int.ofNat g.9) (16 : Int))) :: Value.int IntKind.u8 (IntKind.wrap IntKind.u8 (ishr IntKind.i64 (Int.ofNat
  g.9) (8 : Int))) :: Value.int IntKind.u8 (IntKind.wrap IntKind.u8 (Int.ofNat g.9)) :: Value.int IntKind.u8 (0 : Int) :: Value.int IntKind.u8 (8 : Int) :: Value.int
  IntKind.u8 (0 : Int) :: Value.int IntKind.u8 (0 : Int) :: Value.int IntKind.u8 (0 : Int) :: Value.int IntKind.u8 (1 : Int) :: ([] ++ List.take (g.9 * 1) (List.drop 0
  (bCells g.8))))) true (Ob.cells true))) 0 (some 0))) (9 + g.9 - 9) 1] 3)))]) false (Ob.cells true)) 0)) /\ True)))) /\ (Row.mk [Value.bool true, Value.int IntKind.i64 (2 :
  Int), Value.int IntKind.i64 (65535 : Int), Value.int IntKind.i64 (65536 : Int), Value.int IntKind.i64 (4096 : Int), Value.int IntKind.i64 (2147483647 : Int), Value.int
  IntKind.i64 (65535 : Int), Value.int IntKind.i64 (16384 : Int), Value.int IntKind.i64 (2147483647 : Int), Value.slice (some (Addr.mk 1 0 none)) (g.5 + 13) 1, Value.pointer
  (some (Addr.mk 2 0 none)), Value.pointer (some (Addr.mk 3 0 none)), Value.pointer (some (Addr.mk 4 0 none)), Value.int IntKind.i64 (65535 : Int), Value.int IntKind.i64
  (IntKind.wrap IntKind.i64 ((65535 : Int) - Int.ofNat (cellN [Value.int IntKind.i64 (0 : Int), Value.int IntKind.i64 (8 : Int), Value.int IntKind.i64 (1 : Int), Value.slice
  (some (Addr.mk (yZ (Row.mk (List.take ((9 + g.9) * 1) (Value.int IntKind.u8 (IntKind.wrap IntKind.u8 (ishr IntKind.i64 (Int.ofNat g.9) (16 : Int))) :: Value.int IntKind.u8
  (IntKind.wrap IntKind.u8 (ishr IntKind.i64 (Int.ofNat g.9) (8 : Int))) :: Value.int IntKind.u8 (IntKind.wrap IntKind.u8 (Int.ofNat g.9)) :: Value.int IntKind.u8 (0 : Int)
  :: Value.int IntKind.u8 (8 : Int) :: Value.int IntKind.u8 (0 : Int) :: Value.int IntKind.u8 (0 : Int) :: Value.int IntKind.u8 (0 : Int) :: Value.int IntKind.u8 (1 : Int)
  :: ([] ++ List.take (g.9 * 1) (List.drop 0 (bCells g.8))))) true (Ob.cells true))) 0 (some 0))) (9 + g.9 - 9) 1] 3))), Value.slice none 0 0, Value.slice (some (Addr.mk 5 0
  none)) 1 1, Value.int IntKind.i64 (1 : Int), Value.int IntKind.i64 (1 : Int), Value.bool true, Value.bool false, Value.bool false, Value.bool false, Value.bool false,
  Value.int IntKind.i64 (0 : Int), Value.slice none 0 0, Value.bool false, Value.slice none 0 0] false (Ob.cells false) = Row.mk [Value.bool true, Value.int IntKind.i64 (2 :
  Int), Value.int IntKind.i64 (65535 : Int), Value.int IntKind.i64 (65536 : Int), Value.int IntKind.i64 (4096 : Int), Value.int IntKind.i64 (2147483647 : Int), Value.int
  IntKind.i64 (65535 : Int), Value.int IntKind.i64 (16384 : Int), Value.int IntKind.i64 (2147483647 : Int), Value.slice (some (Addr.mk 1 0 none)) (g.5 + 13) 1, Value.pointer
  (some (Addr.mk 2 0 none)), Value.pointer (some (Addr.mk 3 0 none)), Value.pointer (some (Addr.mk 4 0 none)), Value.int IntKind.i64 (65535 : Int), Value.int IntKind.i64
  (65535 : Int), Value.slice none 0 0, Value.slice (some (Addr.mk 5 0 none)) 1 1, Value.int IntKind.i64 (1 : Int), Value.int IntKind.i64 (1 : Int), Value.bool true,
  Value.bool false, Value.bool false, Value.bool false, Value.bool false, Value.int IntKind.i64 (0 : Int), Value.slice none 0 0, Value.bool false, Value.slice none 0 0]
  false (Ob.cells false) /\ (OkQ (Row.mk (List.take (g.5 * 1) (List.drop g.4 (bCells g.3)) ++ [Value.int IntKind.u8 (0 : Int), Value.int IntKind.u8 (0 : Int), Value.int
  IntKind.u8 (4 : Int), Value.int IntKind.u8 (8 : Int), Value.int IntKind.u8 (0 : Int), Value.int IntKind.u8 (0 : Int), Value.int IntKind.u8 (0 : Int), Value.int IntKind.u8
  (0 : Int), Value.int IntKind.u8 (0 : Int), Value.int IntKind.u8 (IntKind.wrap IntKind.u8 (ishr IntKind.i64 (Int.ofNat (cellN [Value.int IntKind.i64 (0 : Int), Value.int
  IntKind.i64 (8 : Int), Value.int IntKind.i64 (1 : Int), Value.slice (some (Addr.mk (yZ (Row.mk (List.take ((9 + g.9) * 1) (Value.int IntKind.u8 (IntKind.wrap IntKind.u8
  (ishr IntKind.i64 (Int.ofNat g.9) (16 : Int))) :: Value.int IntKind.u8 (IntKind.wrap IntKind.u8 (ishr IntKind.i64 (Int.ofNat g.9) (8 : Int))) :: Value.int IntKind.u8
  (IntKind.wrap IntKind.u8 (Int.ofNat g.9)) :: Value.int IntKind.u8 (0 : Int) :: Value.int IntKind.u8 (8 : Int) :: Value.int IntKind.u8 (0 : Int) :: Value.int IntKind.u8 (0
  : Int) :: Value.int IntKind.u8 (0 : Int) :: Value.int IntKind.u8 (1 : Int) :: ([] ++ List.take (g.9 * 1) (List.drop 0 (bCells g.8))))) true (Ob.cells true))) 0 (some 0)))
  (9 + g.9 - 9) 1] 3)) (24 : Int))), Value.int IntKind.u8 (IntKind.wrap IntKind.u8 (ishr IntKind.i64 (Int.ofNat (cellN [Value.int IntKind.i64 (0 : Int), Value.int
  IntKind.i64 (8 : Int), Value.int IntKind.i64 (1 : Int), Value.slice (some (Addr.mk (yZ (Row.mk (List.take ((9 + g.9) * 1) (Value.int IntKind.u8 (IntKind.wrap IntKind.u8
  (ishr IntKind.i64 (Int.ofNat g.9) (16 : Int))) :: Value.int IntKind.u8 (IntKind.wrap IntKind.u8 (ishr IntKind.i64 (Int.ofNat g.9) (8 : Int))) :: Value.int IntKind.u8
  (IntKind.wrap IntKind.u8 (Int.ofNat g.9)) :: Value.int IntKind.u8 (0 : Int) :: Value.int IntKind.u8 (8 : Int) :: Value.int IntKind.u8 (0 : Int) :: Value.int IntKind.u8 (0
  : Int) :: Value.int IntKind.u8 (0 : Int) :: Value.int IntKind.u8 (1 : Int) :: ([] ++ List.take (g.9 * 1) (List.drop 0 (bCells g.8))))) true (Ob.cells true))) 0 (some 0)))
  (9 + g.9 - 9) 1] 3)) (16 : Int))), Value.int IntKind.u8 (IntKind.wrap IntKind.u8 (ishr IntKind.i64 (Int.ofNat (cellN [Value.int IntKind.i64 (0 : Int), Value.int
  IntKind.i64 (8 : Int), Value.int IntKind.i64 (1 : Int), Value.slice (some (Addr.mk (yZ (Row.mk (List.take ((9 + g.9) * 1) (Value.int IntKind.u8 (IntKind.wrap IntKind.u8
  (ishr IntKind.i64 (Int.ofNat g.9) (16 : Int))) :: Value.int IntKind.u8 (IntKind.wrap IntKind.u8 (ishr IntKind.i64 (Int.ofNat g.9) (8 : Int))) :: Value.int IntKind.u8
  (IntKind.wrap IntKind.u8 (Int.ofNat g.9)) :: Value.int IntKind.u8 (0 : Int) :: Value.int IntKind.u8 (8 : Int) :: Value.int IntKind.u8 (0 : Int) :: Value.int IntKind.u8 (0
  : Int) :: Value.int IntKind.u8 (0 : Int) :: Value.int IntKind.u8 (1 : Int) :: ([] ++ List.take (g.9 * 1) (List.drop 0 (bCells g.8))))) true (Ob.cells true))) 0 (some 0)))
  (9 + g.9 - 9) 1] 3)) (8 : Int))), Value.int IntKind.u8 (IntKind.wrap IntKind.u8 (Int.ofNat (cellN [Value.int IntKind.i64 (0 : Int), Value.int IntKind.i64 (8 : Int),
  Value.int IntKind.i64 (1 : Int), Value.slice (some (Addr.mk (yZ (Row.mk (List.take ((9 + g.9) * 1) (Value.int IntKind.u8 (IntKind.wrap IntKind.u8 (ishr IntKind.i64
  (Int.ofNat g.9) (16 : Int))) :: Value.int IntKind.u8 (IntKind.wrap IntKind.u8 (ishr IntKind.i64 (Int.ofNat g.9) (8 : Int))) :: Value.int IntKind.u8 (IntKind.wrap
  IntKind.u8 (Int.ofNat g.9)) :: Value.int IntKind.u8 (0 : Int) :: Value.int IntKind.u8 (8 : Int) :: Value.int IntKind.u8 (0 : Int) :: Value.int IntKind.u8 (0 : Int) ::
  Value.int IntKind.u8 (0 : Int) :: Value.int IntKind.u8 (1 : Int) :: ([] ++ List.take (g.9 * 1) (List.drop 0 (bCells g.8))))) true (Ob.cells true))) 0 (some 0))) (9 + g.9 -
  9) 1] 3)))]) false (Ob.cells true)) 0 (g.5 + 13) (1048576 : Int) /\ ((0 = 0 /\ ((16384 : Int) = (16384 : Int) /\ (ByteArray.mk #[] = ByteArray.mk #[] /\ ((0 : Int) = (0 :
  Int) /\ ((0 : Int) = (0 : Int) /\ (0 : Int) = (0 : Int)))))) /\ (Row.mk [Value.pointer (some (Addr.mk 7 0 none)), Value.int IntKind.i64 (4096 : Int), Value.int IntKind.i64
  (65536 : Int), Value.bool false] false (Ob.cells false) = Row.mk [Value.pointer (some (Addr.mk 7 0 none)), Value.int IntKind.i64 (4096 : Int), Value.int IntKind.i64 (65536
  : Int), Value.bool false] false (Ob.cells false) /\ (Row.mk [Value.pointer (some (Addr.mk 8 0 none)), Value.bool false, Value.int IntKind.i64 (0 : Int)] false (Ob.cells
  false) = Row.mk [Value.pointer (some (Addr.mk 8 0 none)), Value.bool false, Value.int IntKind.i64 (0 : Int)] false (Ob.cells false) /\ (Row.mk [Value.int IntKind.i64 (1 :
  Int)] false (Ob.cells true) = Row.mk [Value.int IntKind.i64 (1 : Int)] false (Ob.cells true) /\ (OkL (Row.mk (bCells (yP (Row.mk (List.take ((9 + g.9) * 1) (Value.int
  IntKind.u8 (IntKind.wrap IntKind.u8 (ishr IntKind.i64 (Int.ofNat g.9) (16 : Int))) :: Value.int IntKind.u8 (IntKind.wrap IntKind.u8 (ishr IntKind.i64 (Int.ofNat g.9) (8 :
  Int))) :: Value.int IntKind.u8 (IntKind.wrap IntKind.u8 (Int.ofNat g.9)) :: Value.int IntKind.u8 (0 : Int) :: Value.int IntKind.u8 (8 : Int) :: Value.int IntKind.u8 (0 :
  Int) :: Value.int IntKind.u8 (0 : Int) :: Value.int IntKind.u8 (0 : Int) :: Value.int IntKind.u8 (1 : Int) :: ([] ++ List.take (g.9 * 1) (List.drop 0 (bCells g.8))))) true
  (Ob.cells true)))) false (Ob.cells true)) /\ (Row.mk [Value.slice none 0 0, Value.int IntKind.i64 (0 : Int), Value.int IntKind.i64 (4096 : Int)] false (Ob.cells false) =
  Row.mk [Value.slice none 0 0, Value.int IntKind.i64 (0 : Int), Value.int IntKind.i64 (4096 : Int)] false (Ob.cells false) /\ Row.mk [Value.slice none 0 0, Value.int
  IntKind.i64 (0 : Int), Value.int IntKind.i64 (4096 : Int)] false (Ob.cells false) = Row.mk [Value.slice none 0 0, Value.int IntKind.i64 (0 : Int), Value.int IntKind.i64
  (4096 : Int)] false (Ob.cells false))))))))))))) /\ (∃ y : Unit, ((True) /\ (((↑(UInt8.toNat g.1) : Int) = (↑(UInt8.toNat g.1) : Int)) /\ ((0 = 0) /\ (((↑g.2 : Int) =
  (↑g.2 : Int)) /\ ((true = true) /\ (((2 : Int) = (2 : Int)) /\ (((65535 : Int) = (65535 : Int)) /\ (((65536 : Int) = (65536 : Int)) /\ (((4096 : Int) = (4096 : Int)) /\
  (((2147483647 : Int) = (2147483647 : Int)) /\ (((65535 : Int) = (65535 : Int)) /\ (((16384 : Int) = (16384 : Int)) /\ (((2147483647 : Int) = (2147483647 : Int)) /\ ((g.5 +
  13 = 0 + (0 + (g.5 + 13))) /\ ((0 = 0) /\ ((0 = 0) /\ ((0 = 0) /\ ((0 = 0) /\ (((65535 : Int) = (65535 : Int)) /\ (((65535 : Int) = (65535 : Int)) /\ ((0 = 0) /\ ((1 = 1)
  /\ (((1 : Int) = (1 : Int)) /\ (((1 : Int) = (1 : Int)) /\ ((true = true) /\ ((false = false) /\ ((false = false) /\ ((false = false) /\ ((false = false) /\ (((0 : Int) =
  (0 : Int)) /\ ((false = false) /\ ((Eq (α := List Value) (bCells (List.take g.5 (List.drop g.4 g.3) ++ [0, 0, 4, 8, 0, 0, 0, 0, 0, by8 (ishr IntKind.i64 (↑g.9 : Int) (24 :
  Int)), by8 (ishr IntKind.i64 (↑g.9 : Int) (16 : Int)), by8 (ishr IntKind.i64 (↑g.9 : Int) (8 : Int)), by8 (↑g.9 : Int)])) (List.take (g.5 * 1) (List.drop g.4 (bCells g.3))
  ++ [Value.int IntKind.u8 (0 : Int), Value.int IntKind.u8 (0 : Int), Value.int IntKind.u8 (4 : Int), Value.int IntKind.u8 (8 : Int), Value.int IntKind.u8 (0 : Int),
  Value.int IntKind.u8 (0 : Int), Value.int IntKind.u8 (0 : Int), Value.int IntKind.u8 (0 : Int), Value.int IntKind.u8 (0 : Int), Value.int IntKind.u8 (IntKind.wrap
  IntKind.u8 (ishr IntKind.i64 (Int.ofNat (cellN [Value.int IntKind.i64 (0 : Int), Value.int IntKind.i64 (8 : Int), Value.int IntKind.i64 (1 : Int), Value.slice (some
  (Addr.mk (yZ (Row.mk (List.take ((9 + g.9) * 1) (Value.int IntKind.u8 (IntKind.wrap IntKind.u8 (ishr IntKind.i64 (Int.ofNat g.9) (16 : Int))) :: Value.int IntKind.u8
  (IntKind.wrap IntKind.u8 (ishr IntKind.i64 (Int.ofNat g.9) (8 : Int))) :: Value.int IntKind.u8 (IntKind.wrap IntKind.u8 (Int.ofNat g.9)) :: Value.int IntKind.u8 (0 : Int)
  :: Value.int IntKind.u8 (8 : Int) :: Value.int IntKind.u8 (0 : Int) :: Value.int IntKind.u8 (0 : Int) :: Value.int IntKind.u8 (0 : Int) :: Value.int IntKind.u8 (1 : Int)
  :: ([] ++ List.take (g.9 * 1) (List.drop 0 (bCells g.8))))) true (Ob.cells true))) 0 (some 0))) (9 + g.9 - 9) 1] 3)) (24 : Int))), Value.int IntKind.u8 (IntKind.wrap
  IntKind.u8 (ishr IntKind.i64 (Int.ofNat (cellN [Value.int IntKind.i64 (0 : Int), Value.int IntKind.i64 (8 : Int), Value.int IntKind.i64 (1 : Int), Value.slice (some
  (Addr.mk (yZ (Row.mk (List.take ((9 + g.9) * 1) (Value.int IntKind.u8 (IntKind.wrap IntKind.u8 (ishr IntKind.i64 (Int.ofNat g.9) (16 : Int))) :: Value.int IntKind.u8
  (IntKind.wrap IntKind.u8 (ishr IntKind.i64 (Int.ofNat g.9) (8 : Int))) :: Value.int IntKind.u8 (IntKind.wrap IntKind.u8 (Int.ofNat g.9)) :: Value.int IntKind.u8 (0 : Int)
  :: Value.int IntKind.u8 (8 : Int) :: Value.int IntKind.u8 (0 : Int) :: Value.int IntKind.u8 (0 : Int) :: Value.int IntKind.u8 (0 : Int) :: Value.int IntKind.u8 (1 : Int)
  :: ([] ++ List.take (g.9 * 1) (List.drop 0 (bCells g.8))))) true (Ob.cells true))) 0 (some 0))) (9 + g.9 - 9) 1] 3)) (16 : Int))), Value.int IntKind.u8 (IntKind.wrap
  IntKind.u8 (ishr IntKind.i64 (Int.ofNat (cellN [Value.int IntKind.i64 (0 : Int), Value.int IntKind.i64 (8 : Int), Value.int IntKind.i64 (1 : Int), Value.slice (some
  (Addr.mk (yZ (Row.mk (List.take ((9 + g.9) * 1) (Value.int IntKind.u8 (IntKind.wrap IntKind.u8 (ishr IntKind.i64 (Int.ofNat g.9) (16 : Int))) :: Value.int IntKind.u8
  (IntKind.wrap IntKind.u8 (ishr IntKind.i64 (Int.ofNat g.9) (8 : Int))) :: Value.int IntKind.u8 (IntKind.wrap IntKind.u8 (Int.ofNat g.9)) :: Value.int IntKind.u8 (0 : Int)
  :: Value.int IntKind.u8 (8 : Int) :: Value.int IntKind.u8 (0 : Int) :: Value.int IntKind.u8 (0 : Int) :: Value.int IntKind.u8 (0 : Int) :: Value.int IntKind.u8 (1 : Int)
  :: ([] ++ List.take (g.9 * 1) (List.drop 0 (bCells g.8))))) true (Ob.cells true))) 0 (some 0))) (9 + g.9 - 9) 1] 3)) (8 : Int))), Value.int IntKind.u8 (IntKind.wrap
  IntKind.u8 (Int.ofNat (cellN [Value.int IntKind.i64 (0 : Int), Value.int IntKind.i64 (8 : Int), Value.int IntKind.i64 (1 : Int), Value.slice (some (Addr.mk (yZ (Row.mk
  (List.take ((9 + g.9) * 1) (Value.int IntKind.u8 (IntKind.wrap IntKind.u8 (ishr IntKind.i64 (Int.ofNat g.9) (16 : Int))) :: Value.int IntKind.u8 (IntKind.wrap IntKind.u8
  (ishr IntKind.i64 (Int.ofNat g.9) (8 : Int))) :: Value.int IntKind.u8 (IntKind.wrap IntKind.u8 (Int.ofNat g.9)) :: Value.int IntKind.u8 (0 : Int) :: Value.int IntKind.u8
  (8 : Int) :: Value.int IntKind.u8 (0 : Int) :: Value.int IntKind.u8 (0 : Int) :: Value.int IntKind.u8 (0 : Int) :: Value.int IntKind.u8 (1 : Int) :: ([] ++ List.take (g.9
  * 1) (List.drop 0 (bCells g.8))))) true (Ob.cells true))) 0 (some 0))) (9 + g.9 - 9) 1] 3)))])) /\ ((Plain (bCells (List.take g.5 (List.drop g.4 g.3) ++ [0, 0, 4, 8, 0, 0,
  0, 0, 0, by8 (ishr IntKind.i64 (↑g.9 : Int) (24 : Int)), by8 (ishr IntKind.i64 (↑g.9 : Int) (16 : Int)), by8 (ishr IntKind.i64 (↑g.9 : Int) (8 : Int)), by8 (↑g.9 :
  Int)]))) /\ ((9 + g.9 = 0 + (0 + (9 + g.9))) /\ ((0 = 0) /\ (((16384 : Int) = (16384 : Int)) /\ ((ByteArray.mk #[] = ByteArray.mk #[]) /\ (((0 : Int) = (0 : Int)) /\ (((0
  : Int) = (0 : Int)) /\ (((0 : Int) = (0 : Int)) /\ ((Eq (α := List Value) (Value.int IntKind.u8 (↑(UInt8.toNat (by8 (ishr IntKind.i64 (↑(List.length g.8) : Int) (16 :
  Int)))) : Int) :: Value.int IntKind.u8 (↑(UInt8.toNat (by8 (ishr IntKind.i64 (↑(List.length g.8) : Int) (8 : Int)))) : Int) :: Value.int IntKind.u8 (↑(UInt8.toNat (by8
  (↑(List.length g.8) : Int))) : Int) :: Value.int IntKind.u8 (0 : Int) :: Value.int IntKind.u8 (8 : Int) :: Value.int IntKind.u8 (0 : Int) :: Value.int IntKind.u8 (0 : Int)
  :: Value.int IntKind.u8 (0 : Int) :: Value.int IntKind.u8 (1 : Int) :: List.map bVal ([] ++ g.8)) (bCells (yP (Row.mk (List.take ((9 + g.9) * 1) (Value.int IntKind.u8
  (IntKind.wrap IntKind.u8 (ishr IntKind.i64 (Int.ofNat g.9) (16 : Int))) :: Value.int IntKind.u8 (IntKind.wrap IntKind.u8 (ishr IntKind.i64 (Int.ofNat g.9) (8 : Int))) ::
  Value.int IntKind.u8 (IntKind.wrap IntKind.u8 (Int.ofNat g.9)) :: Value.int IntKind.u8 (0 : Int) :: Value.int IntKind.u8 (8 : Int) :: Value.int IntKind.u8 (0 : Int) ::
  Value.int IntKind.u8 (0 : Int) :: Value.int IntKind.u8 (0 : Int) :: Value.int IntKind.u8 (1 : Int) :: ([] ++ List.take (g.9 * 1) (List.drop 0 (bCells g.8))))) true
  (Ob.cells true))))) /\ ((Plain (Value.int IntKind.u8 (↑(UInt8.toNat (by8 (ishr IntKind.i64 (↑(List.length g.8) : Int) (16 : Int)))) : Int) :: Value.int IntKind.u8
  (↑(UInt8.toNat (by8 (ishr IntKind.i64 (↑(List.length g.8) : Int) (8 : Int)))) : Int) :: Value.int IntKind.u8 (↑(UInt8.toNat (by8 (↑(List.length g.8) : Int))) : Int) ::
  Value.int IntKind.u8 (0 : Int) :: Value.int IntKind.u8 (8 : Int) :: Value.int IntKind.u8 (0 : Int) :: Value.int IntKind.u8 (0 : Int) :: Value.int IntKind.u8 (0 : Int) ::
  Value.int IntKind.u8 (1 : Int) :: List.map bVal ([] ++ g.8))) /\ ((0 = 0) /\ (((4096 : Int) = (4096 : Int)) /\ (((65536 : Int) = (65536 : Int)) /\ ((false = false) /\ ((0
  = 0) /\ ((false = false) /\ (((0 : Int) = (0 : Int)) /\ ((Eq (α := List Value) ([Value.int IntKind.i64 (1 : Int)]) ([Value.int IntKind.i64 (1 : Int)])) /\ ((Plain
  [Value.int IntKind.i64 (1 : Int)]) /\ (((0 : Int) = (0 : Int)) /\ (((4096 : Int) = (4096 : Int)) /\ (((0 : Int) = (0 : Int)) /\ (((4096 : Int) = (4096 : Int)) /\
  True))))))))))))))))))))))))))))))))))))))))))))))))))))))))) (br (decide (IntKind.wrap IntKind.i64 (IntKind.wrap IntKind.i64 ((65535 : Int) - Int.ofNat (cellN [Value.int
  IntKind.i64 (0 : Int), Value.int IntKind.i64 (8 : Int), Value.int IntKind.i64 (1 : Int), Value.slice (some (Addr.mk (yZ (Row.mk (List.take ((9 + g.9) * 1) (Value.int
  IntKind.u8 (IntKind.wrap IntKind.u8 (ishr IntKind.i64 (Int.ofNat g.9) (16 : Int))) :: Value.int IntKind.u8 (IntKind.wrap IntKind.u8 (ishr IntKind.i64 (Int.ofNat g.9) (8 :
  Int))) :: Value.int IntKind.u8 (IntKind.wrap IntKind.u8 (Int.ofNat g.9)) :: Value.int IntKind.u8 (0 : Int) :: Value.int IntKind.u8 (8 : Int) :: Value.int IntKind.u8 (0 :
  Int) :: Value.int IntKind.u8 (0 : Int) :: Value.int IntKind.u8 (0 : Int) :: Value.int IntKind.u8 (1 : Int) :: ([] ++ List.take (g.9 * 1) (List.drop 0 (bCells g.8))))) true
  (Ob.cells true))) 0 (some 0))) (9 + g.9 - 9) 1] 3)) + Int.ofNat (cellN [Value.int IntKind.i64 (0 : Int), Value.int IntKind.i64 (8 : Int), Value.int IntKind.i64 (1 : Int),
  Value.slice (some (Addr.mk (yZ (Row.mk (List.take ((9 + g.9) * 1) (Value.int IntKind.u8 (IntKind.wrap IntKind.u8 (ishr IntKind.i64 (Int.ofNat g.9) (16 : Int))) ::
  Value.int IntKind.u8 (IntKind.wrap IntKind.u8 (ishr IntKind.i64 (Int.ofNat g.9) (8 : Int))) :: Value.int IntKind.u8 (IntKind.wrap IntKind.u8 (Int.ofNat g.9)) :: Value.int
  IntKind.u8 (0 : Int) :: Value.int IntKind.u8 (8 : Int) :: Value.int IntKind.u8 (0 : Int) :: Value.int IntKind.u8 (0 : Int) :: Value.int IntKind.u8 (0 : Int) :: Value.int
  IntKind.u8 (1 : Int) :: ([] ++ List.take (g.9 * 1) (List.drop 0 (bCells g.8))))) true (Ob.cells true))) 0 (some 0))) (9 + g.9 - 9) 1] 3)) > (2147483647 : Int))) ((((True
  /\ (True /\ True)) /\ (((True /\ (True /\ (True /\ (True /\ (True /\ (True /\ (True /\ (True /\ (True /\ (True /\ (True /\ (True /\ (True /\ (True /\ (True /\ (True /\
  (True /\ (True /\ (True /\ (True /\ (True /\ (True /\ (True /\ (True /\ (True /\ (True /\ (True /\ (True /\ True)))))))))))))))))))))))))))) /\ (Plain (List.take (g.5 * 1)
  (List.drop g.4 (bCells g.3)) ++ [Value.int IntKind.u8 (0 : Int), Value.int IntKind.u8 (0 : Int), Value.int IntKind.u8 (4 : Int), Value.int IntKind.u8 (8 : Int), Value.int
  IntKind.u8 (0 : Int), Value.int IntKind.u8 (0 : Int), Value.int IntKind.u8 (0 : Int), Value.int IntKind.u8 (0 : Int), Value.int IntKind.u8 (0 : Int), Value.int IntKind.u8
  (IntKind.wrap IntKind.u8 (ishr IntKind.i64 (Int.ofNat (cellN [Value.int IntKind.i64 (0 : Int), Value.int IntKind.i64 (8 : Int), Value.int IntKind.i64 (1 : Int),
  Value.slice (some (Addr.mk (yZ (Row.mk (List.take ((9 + g.9) * 1) (Value.int IntKind.u8 (IntKind.wrap IntKind.u8 (ishr IntKind.i64 (Int.ofNat g.9) (16 : Int))) ::
  Value.int IntKind.u8 (IntKind.wrap IntKind.u8 (ishr IntKind.i64 (Int.ofNat g.9) (8 : Int))) :: Value.int IntKind.u8 (IntKind.wrap IntKind.u8 (Int.ofNat g.9)) :: Value.int
  IntKind.u8 (0 : Int) :: Value.int IntKind.u8 (8 : Int) :: Value.int IntKind.u8 (0 : Int) :: Value.int IntKind.u8 (0 : Int) :: Value.int IntKind.u8 (0 : Int) :: Value.int
  IntKind.u8 (1 : Int) :: ([] ++ List.take (g.9 * 1) (List.drop 0 (bCells g.8))))) true (Ob.cells true))) 0 (some 0))) (9 + g.9 - 9) 1] 3)) (24 : Int))), Value.int
  IntKind.u8 (IntKind.wrap IntKind.u8 (ishr IntKind.i64 (Int.ofNat (cellN [Value.int IntKind.i64 (0 : Int), Value.int IntKind.i64 (8 : Int), Value.int IntKind.i64 (1 : Int),
  Value.slice (some (Addr.mk (yZ (Row.mk (List.take ((9 + g.9) * 1) (Value.int IntKind.u8 (IntKind.wrap IntKind.u8 (ishr IntKind.i64 (Int.ofNat g.9) (16 : Int))) ::
  Value.int IntKind.u8 (IntKind.wrap IntKind.u8 (ishr IntKind.i64 (Int.ofNat g.9) (8 : Int))) :: Value.int IntKind.u8 (IntKind.wrap IntKind.u8 (Int.ofNat g.9)) :: Value.int
  IntKind.u8 (0 : Int) :: Value.int IntKind.u8 (8 : Int) :: Value.int IntKind.u8 (0 : Int) :: Value.int IntKind.u8 (0 : Int) :: Value.int IntKind.u8 (0 : Int) :: Value.int
  IntKind.u8 (1 : Int) :: ([] ++ List.take (g.9 * 1) (List.drop 0 (bCells g.8))))) true (Ob.cells true))) 0 (some 0))) (9 + g.9 - 9) 1] 3)) (16 : Int))), Value.int
  IntKind.u8 (IntKind.wrap IntKind.u8 (ishr IntKind.i64 (Int.ofNat (cellN [Value.int IntKind.i64 (0 : Int), Value.int IntKind.i64 (8 : Int), Value.int IntKind.i64 (1 : Int),
  Value.slice (some (Addr.mk (yZ (Row.mk (List.take ((9 + g.9) * 1) (Value.int IntKind.u8 (IntKind.wrap IntKind.u8 (ishr IntKind.i64 (Int.ofNat g.9) (16 : Int))) ::
  Value.int IntKind.u8 (IntKind.wrap IntKind.u8 (ishr IntKind.i64 (Int.ofNat g.9) (8 : Int))) :: Value.int IntKind.u8 (IntKind.wrap IntKind.u8 (Int.ofNat g.9)) :: Value.int
  IntKind.u8 (0 : Int) :: Value.int IntKind.u8 (8 : Int) :: Value.int IntKind.u8 (0 : Int) :: Value.int IntKind.u8 (0 : Int) :: Value.int IntKind.u8 (0 : Int) :: Value.int
  IntKind.u8 (1 : Int) :: ([] ++ List.take (g.9 * 1) (List.drop 0 (bCells g.8))))) true (Ob.cells true))) 0 (some 0))) (9 + g.9 - 9) 1] 3)) (8 : Int))), Value.int IntKind.u8
  (IntKind.wrap IntKind.u8 (Int.ofNat (cellN [Value.int IntKind.i64 (0 : Int), Value.int IntKind.i64 (8 : Int), Value.int IntKind.i64 (1 : Int), Value.slice (some (Addr.mk
  (yZ (Row.mk (List.take ((9 + g.9) * 1) (Value.int IntKind.u8 (IntKind.wrap IntKind.u8 (ishr IntKind.i64 (Int.ofNat g.9) (16 : Int))) :: Value.int IntKind.u8 (IntKind.wrap
  IntKind.u8 (ishr IntKind.i64 (Int.ofNat g.9) (8 : Int))) :: Value.int IntKind.u8 (IntKind.wrap IntKind.u8 (Int.ofNat g.9)) :: Value.int IntKind.u8 (0 : Int) :: Value.int
  IntKind.u8 (8 : Int) :: Value.int IntKind.u8 (0 : Int) :: Value.int IntKind.u8 (0 : Int) :: Value.int IntKind.u8 (0 : Int) :: Value.int IntKind.u8 (1 : Int) :: ([] ++
  List.take (g.9 * 1) (List.drop 0 (bCells g.8))))) true (Ob.cells true))) 0 (some 0))) (9 + g.9 - 9) 1] 3)))]) /\ ((True /\ (True /\ (True /\ (True /\ (True /\ (True /\
  True)))))) /\ ((True /\ (True /\ (True /\ (True /\ True)))) /\ ((True /\ (True /\ (True /\ True))) /\ (Plain [Value.int IntKind.i64 (1 : Int)] /\ (Plain (bCells (yP
  (Row.mk (List.take ((9 + g.9) * 1) (Value.int IntKind.u8 (IntKind.wrap IntKind.u8 (ishr IntKind.i64 (Int.ofNat g.9) (16 : Int))) :: Value.int IntKind.u8 (IntKind.wrap
  IntKind.u8 (ishr IntKind.i64 (Int.ofNat g.9) (8 : Int))) :: Value.int IntKind.u8 (IntKind.wrap IntKind.u8 (Int.ofNat g.9)) :: Value.int IntKind.u8 (0 : Int) :: Value.int
  IntKind.u8 (8 : Int) :: Value.int IntKind.u8 (0 : Int) :: Value.int IntKind.u8 (0 : Int) :: Value.int IntKind.u8 (0 : Int) :: Value.int IntKind.u8 (1 : Int) :: ([] ++
  List.take (g.9 * 1) (List.drop 0 (bCells g.8))))) true (Ob.cells true)))) /\ ((True /\ (True /\ (True /\ True))) /\ ((True /\ (True /\ (True /\ True))) /\ True))))))))) /\
  ((Plain (List.take (g.5 * 1) (List.drop g.4 (bCells g.3)) ++ [Value.int IntKind.u8 (0 : Int), Value.int IntKind.u8 (0 : Int), Value.int IntKind.u8 (4 : Int), Value.int
  IntKind.u8 (8 : Int), Value.int IntKind.u8 (0 : Int), Value.int IntKind.u8 (0 : Int), Value.int IntKind.u8 (0 : Int), Value.int IntKind.u8 (0 : Int), Value.int IntKind.u8
  (0 : Int), Value.int IntKind.u8 (IntKind.wrap IntKind.u8 (ishr IntKind.i64 (Int.ofNat (cellN [Value.int IntKind.i64 (0 : Int), Value.int IntKind.i64 (8 : Int), Value.int
  IntKind.i64 (1 : Int), Value.slice (some (Addr.mk (yZ (Row.mk (List.take ((9 + g.9) * 1) (Value.int IntKind.u8 (IntKind.wrap IntKind.u8 (ishr IntKind.i64 (Int.ofNat g.9)
  (16 : Int))) :: Value.int IntKind.u8 (IntKind.wrap IntKind.u8 (ishr IntKind.i64 (Int.ofNat g.9) (8 : Int))) :: Value.int IntKind.u8 (IntKind.wrap IntKind.u8 (Int.ofNat
  g.9)) :: Value.int IntKind.u8 (0 : Int) :: Value.int IntKind.u8 (8 : Int) :: Value.int IntKind.u8 (0 : Int) :: Value.int IntKind.u8 (0 : Int) :: Value.int IntKind.u8 (0 :
  Int) :: Value.int IntKind.u8 (1 : Int) :: ([] ++ List.take (g.9 * 1) (List.drop 0 (bCells g.8))))) true (Ob.cells true))) 0 (some 0))) (9 + g.9 - 9) 1] 3)) (24 : Int))),
  Value.int IntKind.u8 (IntKind.wrap IntKind.u8 (ishr IntKind.i64 (Int.ofNat (cellN [Value.int IntKind.i64 (0 : Int), Value.int IntKind.i64 (8 : Int), Value.int IntKind.i64
  (1 : Int), Value.slice (some (Addr.mk (yZ (Row.mk (List.take ((9 + g.9) * 1) (Value.int IntKind.u8 (IntKind.wrap IntKind.u8 (ishr IntKind.i64 (Int.ofNat g.9) (16 : Int)))
  :: Value.int IntKind.u8 (IntKind.wrap IntKind.u8 (ishr IntKind.i64 (Int.ofNat g.9) (8 : Int))) :: Value.int IntKind.u8 (IntKind.wrap IntKind.u8 (Int.ofNat g.9)) ::
  Value.int IntKind.u8 (0 : Int) :: Value.int IntKind.u8 (8 : Int) :: Value.int IntKind.u8 (0 : Int) :: Value.int IntKind.u8 (0 : Int) :: Value.int IntKind.u8 (0 : Int) ::
  Value.int IntKind.u8 (1 : Int) :: ([] ++ List.take (g.9 * 1) (List.drop 0 (bCells g.8))))) true (Ob.cells true))) 0 (some 0))) (9 + g.9 - 9) 1] 3)) (16 : Int))), Value.int
  IntKind.u8 (IntKind.wrap IntKind.u8 (ishr IntKind.i64 (Int.ofNat (cellN [Value.int IntKind.i64 (0 : Int), Value.int IntKind.i64 (8 : Int), Value.int IntKind.i64 (1 : Int),
  Value.slice (some (Addr.mk (yZ (Row.mk (List.take ((9 + g.9) * 1) (Value.int IntKind.u8 (IntKind.wrap IntKind.u8 (ishr IntKind.i64 (Int.ofNat g.9) (16 : Int))) ::
  Value.int IntKind.u8 (IntKind.wrap IntKind.u8 (ishr IntKind.i64 (Int.ofNat g.9) (8 : Int))) :: Value.int IntKind.u8 (IntKind.wrap IntKind.u8 (Int.ofNat g.9)) :: Value.int
  IntKind.u8 (0 : Int) :: Value.int IntKind.u8 (8 : Int) :: Value.int IntKind.u8 (0 : Int) :: Value.int IntKind.u8 (0 : Int) :: Value.int IntKind.u8 (0 : Int) :: Value.int
  IntKind.u8 (1 : Int) :: ([] ++ List.take (g.9 * 1) (List.drop 0 (bCells g.8))))) true (Ob.cells true))) 0 (some 0))) (9 + g.9 - 9) 1] 3)) (8 : Int))), Value.int IntKind.u8
  (IntKind.wrap IntKind.u8 (Int.ofNat (cellN [Value.int IntKind.i64 (0 : Int), Value.int IntKind.i64 (8 : Int), Value.int IntKind.i64 (1 : Int), Value.slice (some (Addr.mk
  (yZ (Row.mk (List.take ((9 + g.9) * 1) (Value.int IntKind.u8 (IntKind.wrap IntKind.u8 (ishr IntKind.i64 (Int.ofNat g.9) (16 : Int))) :: Value.int IntKind.u8 (IntKind.wrap
  IntKind.u8 (ishr IntKind.i64 (Int.ofNat g.9) (8 : Int))) :: Value.int IntKind.u8 (IntKind.wrap IntKind.u8 (Int.ofNat g.9)) :: Value.int IntKind.u8 (0 : Int) :: Value.int
  IntKind.u8 (8 : Int) :: Value.int IntKind.u8 (0 : Int) :: Value.int IntKind.u8 (0 : Int) :: Value.int IntKind.u8 (0 : Int) :: Value.int IntKind.u8 (1 : Int) :: ([] ++
  List.take (g.9 * 1) (List.drop 0 (bCells g.8))))) true (Ob.cells true))) 0 (some 0))) (9 + g.9 - 9) 1] 3)))]) /\ (Plain [Value.int IntKind.i64 (1 : Int)] /\ (Plain (bCells
  (yP (Row.mk (List.take ((9 + g.9) * 1) (Value.int IntKind.u8 (IntKind.wrap IntKind.u8 (ishr IntKind.i64 (Int.ofNat g.9) (16 : Int))) :: Value.int IntKind.u8 (IntKind.wrap
  IntKind.u8 (ishr IntKind.i64 (Int.ofNat g.9) (8 : Int))) :: Value.int IntKind.u8 (IntKind.wrap IntKind.u8 (Int.ofNat g.9)) :: Value.int IntKind.u8 (0 : Int) :: Value.int
  IntKind.u8 (8 : Int) :: Value.int IntKind.u8 (0 : Int) :: Value.int IntKind.u8 (0 : Int) :: Value.int IntKind.u8 (0 : Int) :: Value.int IntKind.u8 (1 : Int) :: ([] ++
  List.take (g.9 * 1) (List.drop 0 (bCells g.8))))) true (Ob.cells true)))) /\ (Plain (bCells (woZ (Row.mk (List.take (g.5 * 1) (List.drop g.4 (bCells g.3)) ++ [Value.int
  IntKind.u8 (0 : Int), Value.int IntKind.u8 (0 : Int), Value.int IntKind.u8 (4 : Int), Value.int IntKind.u8 (8 : Int), Value.int IntKind.u8 (0 : Int), Value.int IntKind.u8
  (0 : Int), Value.int IntKind.u8 (0 : Int), Value.int IntKind.u8 (0 : Int), Value.int IntKind.u8 (0 : Int), Value.int IntKind.u8 (IntKind.wrap IntKind.u8 (ishr IntKind.i64
  (Int.ofNat (cellN [Value.int IntKind.i64 (0 : Int), Value.int IntKind.i64 (8 : Int), Value.int IntKind.i64 (1 : Int), Value.slice (some (Addr.mk (yZ (Row.mk (List.take ((9
  + g.9) * 1) (Value.int IntKind.u8 (IntKind.wrap IntKind.u8 (ishr IntKind.i64 (Int.ofNat g.9) (16 : Int))) :: Value.int IntKind.u8 (IntKind.wrap IntKind.u8 (ishr
  IntKind.i64 (Int.ofNat g.9) (8 : Int))) :: Value.int IntKind.u8 (IntKind.wrap IntKind.u8 (Int.ofNat g.9)) :: Value.int IntKind.u8 (0 : Int) :: Value.int IntKind.u8 (8 :
  Int) :: Value.int IntKind.u8 (0 : Int) :: Value.int IntKind.u8 (0 : Int) :: Value.int IntKind.u8 (0 : Int) :: Value.int IntKind.u8 (1 : Int) :: ([] ++ List.take (g.9 * 1)
  (List.drop 0 (bCells g.8))))) true (Ob.cells true))) 0 (some 0))) (9 + g.9 - 9) 1] 3)) (24 : Int))), Value.int IntKind.u8 (IntKind.wrap IntKind.u8 (ishr IntKind.i64
  (Int.ofNat (cellN [Value.int IntKind.i64 (0 : Int), Value.int IntKind.i64 (8 : Int), Value.int IntKind.i64 (1 : Int), Value.slice (some (Addr.mk (yZ (Row.mk (List.take ((9
  + g.9) * 1) (Value.int IntKind.u8 (IntKind.wrap IntKind.u8 (ishr IntKind.i64 (Int.ofNat g.9) (16 : Int))) :: Value.int IntKind.u8 (IntKind.wrap IntKind.u8 (ishr
  IntKind.i64 (Int.ofNat g.9) (8 : Int))) :: Value.int IntKind.u8 (IntKind.wrap IntKind.u8 (Int.ofNat g.9)) :: Value.int IntKind.u8 (0 : Int) :: Value.int IntKind.u8 (8 :
  Int) :: Value.int IntKind.u8 (0 : Int) :: Value.int IntKind.u8 (0 : Int) :: Value.int IntKind.u8 (0 : Int) :: Value.int IntKind.u8 (1 : Int) :: ([] ++ List.take (g.9 * 1)
  (List.drop 0 (bCells g.8))))) true (Ob.cells true))) 0 (some 0))) (9 + g.9 - 9) 1] 3)) (16 : Int))), Value.int IntKind.u8 (IntKind.wrap IntKind.u8 (ishr IntKind.i64
  (Int.ofNat (cellN [Value.int IntKind.i64 (0 : Int), Value.int IntKind.i64 (8 : Int), Value.int IntKind.i64 (1 : Int), Value.slice (some (Addr.mk (yZ (Row.mk (List.take ((9
  + g.9) * 1) (Value.int IntKind.u8 (IntKind.wrap IntKind.u8 (ishr IntKind.i64 (Int.ofNat g.9) (16 : Int))) :: Value.int IntKind.u8 (IntKind.wrap IntKind.u8 (ishr
  IntKind.i64 (Int.ofNat g.9) (8 : Int))) :: Value.int IntKind.u8 (IntKind.wrap IntKind.u8 (Int.ofNat g.9)) :: Value.int IntKind.u8 (0 : Int) :: Value.int IntKind.u8 (8 :
  Int) :: Value.int IntKind.u8 (0 : Int) :: Value.int IntKind.u8 (0 : Int) :: Value.int IntKind.u8 (0 : Int) :: Value.int IntKind.u8 (1 : Int) :: ([] ++ List.take (g.9 * 1)
  (List.drop 0 (bCells g.8))))) true (Ob.cells true))) 0 (some 0))) (9 + g.9 - 9) 1] 3)) (8 : Int))), Value.int IntKind.u8 (IntKind.wrap IntKind.u8 (Int.ofNat (cellN
  [Value.int IntKind.i64 (0 : Int), Value.int IntKind.i64 (8 : Int), Value.int IntKind.i64 (1 : Int), Value.slice (some (Addr.mk (yZ (Row.mk (List.take ((9 + g.9) * 1)
  (Value.int IntKind.u8 (IntKind.wrap IntKind.u8 (ishr IntKind.i64 (Int.ofNat g.9) (16 : Int))) :: Value.int IntKind.u8 (IntKind.wrap IntKind.u8 (ishr IntKind.i64 (Int.ofNat
  g.9) (8 : Int))) :: Value.int IntKind.u8 (IntKind.wrap IntKind.u8 (Int.ofNat g.9)) :: Value.int IntKind.u8 (0 : Int) :: Value.int IntKind.u8 (8 : Int) :: Value.int
  IntKind.u8 (0 : Int) :: Value.int IntKind.u8 (0 : Int) :: Value.int IntKind.u8 (0 : Int) :: Value.int IntKind.u8 (1 : Int) :: ([] ++ List.take (g.9 * 1) (List.drop 0
  (bCells g.8))))) true (Ob.cells true))) 0 (some 0))) (9 + g.9 - 9) 1] 3)))]) false (Ob.cells true)) 0)) /\ True)))) /\ (Row.mk [Value.bool true, Value.int IntKind.i64 (2 :
  Int), Value.int IntKind.i64 (65535 : Int), Value.int IntKind.i64 (65536 : Int), Value.int IntKind.i64 (4096 : Int), Value.int IntKind.i64 (2147483647 : Int), Value.int
  IntKind.i64 (65535 : Int), Value.int IntKind.i64 (16384 : Int), Value.int IntKind.i64 (2147483647 : Int), Value.slice (some (Addr.mk 1 0 none)) (g.5 + 13) 1, Value.pointer
  (some (Addr.mk 2 0 none)), Value.pointer (some (Addr.mk 3 0 none)), Value.pointer (some (Addr.mk 4 0 none)), Value.int IntKind.i64 (65535 : Int), Value.int IntKind.i64
  (IntKind.wrap IntKind.i64 ((65535 : Int) - Int.ofNat (cellN [Value.int IntKind.i64 (0 : Int), Value.int IntKind.i64 (8 : Int), Value.int IntKind.i64 (1 : Int), Value.slice
  (some (Addr.mk (yZ (Row.mk (List.take ((9 + g.9) * 1) (Value.int IntKind.u8 (IntKind.wrap IntKind.u8 (ishr IntKind.i64 (Int.ofNat g.9) (16 : Int))) :: Value.int IntKind.u8
  (IntKind.wrap IntKind.u8 (ishr IntKind.i64 (Int.ofNat g.9) (8 : Int))) :: Value.int IntKind.u8 (IntKind.wrap IntKind.u8 (Int.ofNat g.9)) :: Value.int IntKind.u8 (0 : Int)
  :: Value.int IntKind.u8 (8 : Int) :: Value.int IntKind.u8 (0 : Int) :: Value.int IntKind.u8 (0 : Int) :: Value.int IntKind.u8 (0 : Int) :: Value.int IntKind.u8 (1 : Int)
  :: ([] ++ List.take (g.9 * 1) (List.drop 0 (bCells g.8))))) true (Ob.cells true))) 0 (some 0))) (9 + g.9 - 9) 1] 3))), Value.slice none 0 0, Value.slice (some (Addr.mk 5 0
  none)) 1 1, Value.int IntKind.i64 (1 : Int), Value.int IntKind.i64 (1 : Int), Value.bool true, Value.bool false, Value.bool false, Value.bool false, Value.bool false,
  Value.int IntKind.i64 (0 : Int), Value.slice none 0 0, Value.bool false, Value.slice none 0 0] false (Ob.cells false) = Row.mk [Value.bool true, Value.int IntKind.i64 (2 :
  Int), Value.int IntKind.i64 (65535 : Int), Value.int IntKind.i64 (65536 : Int), Value.int IntKind.i64 (4096 : Int), Value.int IntKind.i64 (2147483647 : Int), Value.int
  IntKind.i64 (65535 : Int), Value.int IntKind.i64 (16384 : Int), Value.int IntKind.i64 (2147483647 : Int), Value.slice (some (Addr.mk 1 0 none)) (g.5 + 13) 1, Value.pointer
  (some (Addr.mk 2 0 none)), Value.pointer (some (Addr.mk 3 0 none)), Value.pointer (some (Addr.mk 4 0 none)), Value.int IntKind.i64 (65535 : Int), Value.int IntKind.i64
  (65535 : Int), Value.slice none 0 0, Value.slice (some (Addr.mk 5 0 none)) 1 1, Value.int IntKind.i64 (1 : Int), Value.int IntKind.i64 (1 : Int), Value.bool true,
  Value.bool false, Value.bool false, Value.bool false, Value.bool false, Value.int IntKind.i64 (0 : Int), Value.slice none 0 0, Value.bool false, Value.slice none 0 0]
  false (Ob.cells false) /\ (OkQ (Row.mk (List.take (g.5 * 1) (List.drop g.4 (bCells g.3)) ++ [Value.int IntKind.u8 (0 : Int), Value.int IntKind.u8 (0 : Int), Value.int
  IntKind.u8 (4 : Int), Value.int IntKind.u8 (8 : Int), Value.int IntKind.u8 (0 : Int), Value.int IntKind.u8 (0 : Int), Value.int IntKind.u8 (0 : Int), Value.int IntKind.u8
  (0 : Int), Value.int IntKind.u8 (0 : Int), Value.int IntKind.u8 (IntKind.wrap IntKind.u8 (ishr IntKind.i64 (Int.ofNat (cellN [Value.int IntKind.i64 (0 : Int), Value.int
  IntKind.i64 (8 : Int), Value.int IntKind.i64 (1 : Int), Value.slice (some (Addr.mk (yZ (Row.mk (List.take ((9 + g.9) * 1) (Value.int IntKind.u8 (IntKind.wrap IntKind.u8
  (ishr IntKind.i64 (Int.ofNat g.9) (16 : Int))) :: Value.int IntKind.u8 (IntKind.wrap IntKind.u8 (ishr IntKind.i64 (Int.ofNat g.9) (8 : Int))) :: Value.int IntKind.u8
  (IntKind.wrap IntKind.u8 (Int.ofNat g.9)) :: Value.int IntKind.u8 (0 : Int) :: Value.int IntKind.u8 (8 : Int) :: Value.int IntKind.u8 (0 : Int) :: Value.int IntKind.u8 (0
  : Int) :: Value.int IntKind.u8 (0 : Int) :: Value.int IntKind.u8 (1 : Int) :: ([] ++ List.take (g.9 * 1) (List.drop 0 (bCells g.8))))) true (Ob.cells true))) 0 (some 0)))
  (9 + g.9 - 9) 1] 3)) (24 : Int))), Value.int IntKind.u8 (IntKind.wrap IntKind.u8 (ishr IntKind.i64 (Int.ofNat (cellN [Value.int IntKind.i64 (0 : Int), Value.int
  IntKind.i64 (8 : Int), Value.int IntKind.i64 (1 : Int), Value.slice (some (Addr.mk (yZ (Row.mk (List.take ((9 + g.9) * 1) (Value.int IntKind.u8 (IntKind.wrap IntKind.u8
  (ishr IntKind.i64 (Int.ofNat g.9) (16 : Int))) :: Value.int IntKind.u8 (IntKind.wrap IntKind.u8 (ishr IntKind.i64 (Int.ofNat g.9) (8 : Int))) :: Value.int IntKind.u8
  (IntKind.wrap IntKind.u8 (Int.ofNat g.9)) :: Value.int IntKind.u8 (0 : Int) :: Value.int IntKind.u8 (8 : Int) :: Value.int IntKind.u8 (0 : Int) :: Value.int IntKind.u8 (0
  : Int) :: Value.int IntKind.u8 (0 : Int) :: Value.int IntKind.u8 (1 : Int) :: ([] ++ List.take (g.9 * 1) (List.drop 0 (bCells g.8))))) true (Ob.cells true))) 0 (some 0)))
  (9 + g.9 - 9) 1] 3)) (16 : Int))), Value.int IntKind.u8 (IntKind.wrap IntKind.u8 (ishr IntKind.i64 (Int.ofNat (cellN [Value.int IntKind.i64 (0 : Int), Value.int
  IntKind.i64 (8 : Int), Value.int IntKind.i64 (1 : Int), Value.slice (some (Addr.mk (yZ (Row.mk (List.take ((9 + g.9) * 1) (Value.int IntKind.u8 (IntKind.wrap IntKind.u8
  (ishr IntKind.i64 (Int.ofNat g.9) (16 : Int))) :: Value.int IntKind.u8 (IntKind.wrap IntKind.u8 (ishr IntKind.i64 (Int.ofNat g.9) (8 : Int))) :: Value.int IntKind.u8
  (IntKind.wrap IntKind.u8 (Int.ofNat g.9)) :: Value.int IntKind.u8 (0 : Int) :: Value.int IntKind.u8 (8 : Int) :: Value.int IntKind.u8 (0 : Int) :: Value.int IntKind.u8 (0
  : Int) :: Value.int IntKind.u8 (0 : Int) :: Value.int IntKind.u8 (1 : Int) :: ([] ++ List.take (g.9 * 1) (List.drop 0 (bCells g.8))))) true (Ob.cells true))) 0 (some 0)))
  (9 + g.9 - 9) 1] 3)) (8 : Int))), Value.int IntKind.u8 (IntKind.wrap IntKind.u8 (Int.ofNat (cellN [Value.int IntKind.i64 (0 : Int), Value.int IntKind.i64 (8 : Int),
  Value.int IntKind.i64 (1 : Int), Value.slice (some (Addr.mk (yZ (Row.mk (List.take ((9 + g.9) * 1) (Value.int IntKind.u8 (IntKind.wrap IntKind.u8 (ishr IntKind.i64
  (Int.ofNat g.9) (16 : Int))) :: Value.int IntKind.u8 (IntKind.wrap IntKind.u8 (ishr IntKind.i64 (Int.ofNat g.9) (8 : Int))) :: Value.int IntKind.u8 (IntKind.wrap
  IntKind.u8 (Int.ofNat g.9)) :: Value.int IntKind.u8 (0 : Int) :: Value.int IntKind.u8 (8 : Int) :: Value.int IntKind.u8 (0 : Int) :: Value.int IntKind.u8 (0 : Int) ::
  Value.int IntKind.u8 (0 : Int) :: Value.int IntKind.u8 (1 : Int) :: ([] ++ List.take (g.9 * 1) (List.drop 0 (bCells g.8))))) true (Ob.cells true))) 0 (some 0))) (9 + g.9 -
  9) 1] 3)))]) false (Ob.cells true)) 0 (g.5 + 13) (1048576 : Int) /\ ((0 = 0 /\ ((16384 : Int) = (16384 : Int) /\ (ByteArray.mk #[] = ByteArray.mk #[] /\ ((0 : Int) = (0 :
  Int) /\ ((0 : Int) = (0 : Int) /\ (0 : Int) = (0 : Int)))))) /\ (Row.mk [Value.pointer (some (Addr.mk 7 0 none)), Value.int IntKind.i64 (4096 : Int), Value.int IntKind.i64
  (65536 : Int), Value.bool false] false (Ob.cells false) = Row.mk [Value.pointer (some (Addr.mk 7 0 none)), Value.int IntKind.i64 (4096 : Int), Value.int IntKind.i64 (65536
  : Int), Value.bool false] false (Ob.cells false) /\ (Row.mk [Value.pointer (some (Addr.mk 8 0 none)), Value.bool false, Value.int IntKind.i64 (0 : Int)] false (Ob.cells
  false) = Row.mk [Value.pointer (some (Addr.mk 8 0 none)), Value.bool false, Value.int IntKind.i64 (0 : Int)] false (Ob.cells false) /\ (Row.mk [Value.int IntKind.i64 (1 :
  Int)] false (Ob.cells true) = Row.mk [Value.int IntKind.i64 (1 : Int)] false (Ob.cells true) /\ (OkL (Row.mk (bCells (yP (Row.mk (List.take ((9 + g.9) * 1) (Value.int
  IntKind.u8 (IntKind.wrap IntKind.u8 (ishr IntKind.i64 (Int.ofNat g.9) (16 : Int))) :: Value.int IntKind.u8 (IntKind.wrap IntKind.u8 (ishr IntKind.i64 (Int.ofNat g.9) (8 :
  Int))) :: Value.int IntKind.u8 (IntKind.wrap IntKind.u8 (Int.ofNat g.9)) :: Value.int IntKind.u8 (0 : Int) :: Value.int IntKind.u8 (8 : Int) :: Value.int IntKind.u8 (0 :
  Int) :: Value.int IntKind.u8 (0 : Int) :: Value.int IntKind.u8 (0 : Int) :: Value.int IntKind.u8 (1 : Int) :: ([] ++ List.take (g.9 * 1) (List.drop 0 (bCells g.8))))) true
  (Ob.cells true)))) false (Ob.cells true)) /\ (Row.mk [Value.slice none 0 0, Value.int IntKind.i64 (0 : Int), Value.int IntKind.i64 (4096 : Int)] false (Ob.cells false) =
  Row.mk [Value.slice none 0 0, Value.int IntKind.i64 (0 : Int), Value.int IntKind.i64 (4096 : Int)] false (Ob.cells false) /\ Row.mk [Value.slice none 0 0, Value.int
  IntKind.i64 (0 : Int), Value.int IntKind.i64 (4096 : Int)] false (Ob.cells false) = Row.mk [Value.slice none 0 0, Value.int IntKind.i64 (0 : Int), Value.int IntKind.i64
  (4096 : Int)] false (Ob.cells false))))))))))))) /\ (∃ y : Unit, ((True) /\ (((↑(UInt8.toNat g.1) : Int) = (↑(UInt8.toNat g.1) : Int)) /\ ((0 = 0) /\ (((↑g.2 : Int) =
  (↑g.2 : Int)) /\ ((true = true) /\ (((2 : Int) = (2 : Int)) /\ (((65535 : Int) = (65535 : Int)) /\ (((65536 : Int) = (65536 : Int)) /\ (((4096 : Int) = (4096 : Int)) /\
  (((2147483647 : Int) = (2147483647 : Int)) /\ (((65535 : Int) = (65535 : Int)) /\ (((16384 : Int) = (16384 : Int)) /\ (((2147483647 : Int) = (2147483647 : Int)) /\ ((g.5 +
  13 = 0 + (0 + (g.5 + 13))) /\ ((0 = 0) /\ ((0 = 0) /\ ((0 = 0) /\ ((0 = 0) /\ (((65535 : Int) = (65535 : Int)) /\ (((65535 : Int) = (65535 : Int)) /\ ((0 = 0) /\ ((1 = 1)
  /\ (((1 : Int) = (1 : Int)) /\ (((1 : Int) = (1 : Int)) /\ ((true = true) /\ ((false = false) /\ ((false = false) /\ ((false = false) /\ ((false = false) /\ (((0 : Int) =
  (0 : Int)) /\ ((false = false) /\ ((Eq (α := List Value) (bCells (List.take g.5 (List.drop g.4 g.3) ++ [0, 0, 4, 8, 0, 0, 0, 0, 0, by8 (ishr IntKind.i64 (↑g.9 : Int) (24 :
  Int)), by8 (ishr IntKind.i64 (↑g.9 : Int) (16 : Int)), by8 (ishr IntKind.i64 (↑g.9 : Int) (8 : Int)), by8 (↑g.9 : Int)])) (List.take (g.5 * 1) (List.drop g.4 (bCells g.3))
  ++ [Value.int IntKind.u8 (0 : Int), Value.int IntKind.u8 (0 : Int), Value.int IntKind.u8 (4 : Int), Value.int IntKind.u8 (8 : Int), Value.int IntKind.u8 (0 : Int),
  Value.int IntKind.u8 (0 : Int), Value.int IntKind.u8 (0 : Int), Value.int IntKind.u8 (0 : Int), Value.int IntKind.u8 (0 : Int), Value.int IntKind.u8 (IntKind.wrap
  IntKind.u8 (ishr IntKind.i64 (Int.ofNat (cellN [Value.int IntKind.i64 (0 : Int), Value.int IntKind.i64 (8 : Int), Value.int IntKind.i64 (1 : Int), Value.slice (some
  (Addr.mk (yZ (Row.mk (List.take ((9 + g.9) * 1) (Value.int IntKind.u8 (IntKind.wrap IntKind.u8 (ishr IntKind.i64 (Int.ofNat g.9) (16 : Int))) :: Value.int IntKind.u8
  (IntKind.wrap IntKind.u8 (ishr IntKind.i64 (Int.ofNat g.9) (8 : Int))) :: Value.int IntKind.u8 (IntKind.wrap IntKind.u8 (Int.ofNat g.9)) :: Value.int IntKind.u8 (0 : Int)
  :: Value.int IntKind.u8 (8 : Int) :: Value.int IntKind.u8 (0 : Int) :: Value.int IntKind.u8 (0 : Int) :: Value.int IntKind.u8 (0 : Int) :: Value.int IntKind.u8 (1 : Int)
  :: ([] ++ List.take (g.9 * 1) (List.drop 0 (bCells g.8))))) true (Ob.cells true))) 0 (some 0))) (9 + g.9 - 9) 1] 3)) (24 : Int))), Value.int IntKind.u8 (IntKind.wrap
  IntKind.u8 (ishr IntKind.i64 (Int.ofNat (cellN [Value.int IntKind.i64 (0 : Int), Value.int IntKind.i64 (8 : Int), Value.int IntKind.i64 (1 : Int), Value.slice (some
  (Addr.mk (yZ (Row.mk (List.take ((9 + g.9) * 1) (Value.int IntKind.u8 (IntKind.wrap IntKind.u8 (ishr IntKind.i64 (Int.ofNat g.9) (16 : Int))) :: Value.int IntKind.u8
  (IntKind.wrap IntKind.u8 (ishr IntKind.i64 (Int.ofNat g.9) (8 : Int))) :: Value.int IntKind.u8 (IntKind.wrap IntKind.u8 (Int.ofNat g.9)) :: Value.int IntKind.u8 (0 : Int)
  :: Value.int IntKind.u8 (8 : Int) :: Value.int IntKind.u8 (0 : Int) :: Value.int IntKind.u8 (0 : Int) :: Value.int IntKind.u8 (0 : Int) :: Value.int IntKind.u8 (1 : Int)
  :: ([] ++ List.take (g.9 * 1) (List.drop 0 (bCells g.8))))) true (Ob.cells true))) 0 (some 0))) (9 + g.9 - 9) 1] 3)) (16 : Int))), Value.int IntKind.u8 (IntKind.wrap
  IntKind.u8 (ishr IntKind.i64 (Int.ofNat (cellN [Value.int IntKind.i64 (0 : Int), Value.int IntKind.i64 (8 : Int), Value.int IntKind.i64 (1 : Int), Value.slice (some
  (Addr.mk (yZ (Row.mk (List.take ((9 + g.9) * 1) (Value.int IntKind.u8 (IntKind.wrap IntKind.u8 (ishr IntKind.i64 (Int.ofNat g.9) (16 : Int))) :: Value.int IntKind.u8
  (IntKind.wrap IntKind.u8 (ishr IntKind.i64 (Int.ofNat g.9) (8 : Int))) :: Value.int IntKind.u8 (IntKind.wrap IntKind.u8 (Int.ofNat g.9)) :: Value.int IntKind.u8 (0 : Int)
  :: Value.int IntKind.u8 (8 : Int) :: Value.int IntKind.u8 (0 : Int) :: Value.int IntKind.u8 (0 : Int) :: Value.int IntKind.u8 (0 : Int) :: Value.int IntKind.u8 (1 : Int)
  :: ([] ++ List.take (g.9 * 1) (List.drop 0 (bCells g.8))))) true (Ob.cells true))) 0 (some 0))) (9 + g.9 - 9) 1] 3)) (8 : Int))), Value.int IntKind.u8 (IntKind.wrap
  IntKind.u8 (Int.ofNat (cellN [Value.int IntKind.i64 (0 : Int), Value.int IntKind.i64 (8 : Int), Value.int IntKind.i64 (1 : Int), Value.slice (some (Addr.mk (yZ (Row.mk
  (List.take ((9 + g.9) * 1) (Value.int IntKind.u8 (IntKind.wrap IntKind.u8 (ishr IntKind.i64 (Int.ofNat g.9) (16 : Int))) :: Value.int IntKind.u8 (IntKind.wrap IntKind.u8
  (ishr IntKind.i64 (Int.ofNat g.9) (8 : Int))) :: Value.int IntKind.u8 (IntKind.wrap IntKind.u8 (Int.ofNat g.9)) :: Value.int IntKind.u8 (0 : Int) :: Value.int IntKind.u8
  (8 : Int) :: Value.int IntKind.u8 (0 : Int) :: Value.int IntKind.u8 (0 : Int) :: Value.int IntKind.u8 (0 : Int) :: Value.int IntKind.u8 (1 : Int) :: ([] ++ List.take (g.9
  * 1) (List.drop 0 (bCells g.8))))) true (Ob.cells true))) 0 (some 0))) (9 + g.9 - 9) 1] 3)))])) /\ ((Plain (bCells (List.take g.5 (List.drop g.4 g.3) ++ [0, 0, 4, 8, 0, 0,
  0, 0, 0, by8 (ishr IntKind.i64 (↑g.9 : Int) (24 : Int)), by8 (ishr IntKind.i64 (↑g.9 : Int) (16 : Int)), by8 (ishr IntKind.i64 (↑g.9 : Int) (8 : Int)), by8 (↑g.9 :
  Int)]))) /\ ((9 + g.9 = 0 + (0 + (9 + g.9))) /\ ((0 = 0) /\ (((16384 : Int) = (16384 : Int)) /\ ((ByteArray.mk #[] = ByteArray.mk #[]) /\ (((0 : Int) = (0 : Int)) /\ (((0
  : Int) = (0 : Int)) /\ (((0 : Int) = (0 : Int)) /\ ((Eq (α := List Value) (Value.int IntKind.u8 (↑(UInt8.toNat (by8 (ishr IntKind.i64 (↑(List.length g.8) : Int) (16 :
  Int)))) : Int) :: Value.int IntKind.u8 (↑(UInt8.toNat (by8 (ishr IntKind.i64 (↑(List.length g.8) : Int) (8 : Int)))) : Int) :: Value.int IntKind.u8 (↑(UInt8.toNat (by8
  (↑(List.length g.8) : Int))) : Int) :: Value.int IntKind.u8 (0 : Int) :: Value.int IntKind.u8 (8 : Int) :: Value.int IntKind.u8 (0 : Int) :: Value.int IntKind.u8 (0 : Int)
  :: Value.int IntKind.u8 (0 : Int) :: Value.int IntKind.u8 (1 : Int) :: List.map bVal ([] ++ g.8)) (bCells (yP (Row.mk (List.take ((9 + g.9) * 1) (Value.int IntKind.u8
  (IntKind.wrap IntKind.u8 (ishr IntKind.i64 (Int.ofNat g.9) (16 : Int))) :: Value.int IntKind.u8 (IntKind.wrap IntKind.u8 (ishr IntKind.i64 (Int.ofNat g.9) (8 : Int))) ::
  Value.int IntKind.u8 (IntKind.wrap IntKind.u8 (Int.ofNat g.9)) :: Value.int IntKind.u8 (0 : Int) :: Value.int IntKind.u8 (8 : Int) :: Value.int IntKind.u8 (0 : Int) ::
  Value.int IntKind.u8 (0 : Int) :: Value.int IntKind.u8 (0 : Int) :: Value.int IntKind.u8 (1 : Int) :: ([] ++ List.take (g.9 * 1) (List.drop 0 (bCells g.8))))) true
  (Ob.cells true))))) /\ ((Plain (Value.int IntKind.u8 (↑(UInt8.toNat (by8 (ishr IntKind.i64 (↑(List.length g.8) : Int) (16 : Int)))) : Int) :: Value.int IntKind.u8
  (↑(UInt8.toNat (by8 (ishr IntKind.i64 (↑(List.length g.8) : Int) (8 : Int)))) : Int) :: Value.int IntKind.u8 (↑(UInt8.toNat (by8 (↑(List.length g.8) : Int))) : Int) ::
  Value.int IntKind.u8 (0 : Int) :: Value.int IntKind.u8 (8 : Int) :: Value.int IntKind.u8 (0 : Int) :: Value.int IntKind.u8 (0 : Int) :: Value.int IntKind.u8 (0 : Int) ::
  Value.int IntKind.u8 (1 : Int) :: List.map bVal ([] ++ g.8))) /\ ((0 = 0) /\ (((4096 : Int) = (4096 : Int)) /\ (((65536 : Int) = (65536 : Int)) /\ ((false = false) /\ ((0
  = 0) /\ ((false = false) /\ (((0 : Int) = (0 : Int)) /\ ((Eq (α := List Value) ([Value.int IntKind.i64 (1 : Int)]) ([Value.int IntKind.i64 (1 : Int)])) /\ ((Plain
  [Value.int IntKind.i64 (1 : Int)]) /\ (((0 : Int) = (0 : Int)) /\ (((4096 : Int) = (4096 : Int)) /\ (((0 : Int) = (0 : Int)) /\ (((4096 : Int) = (4096 : Int)) /\
  True))))))))))))))))))))))))))))))))))))))))))))))))))))))))) ((((True /\ (True /\ True)) /\ (((True /\ (True /\ (True /\ (True /\ (True /\ (True /\ (True /\ (True /\
  (True /\ (True /\ (True /\ (True /\ (True /\ (True /\ (True /\ (True /\ (True /\ (True /\ (True /\ (True /\ (True /\ (True /\ (True /\ (True /\ (True /\ (True /\ (True /\
  (True /\ True)))))))))))))))))))))))))))) /\ (Plain (List.take (g.5 * 1) (List.drop g.4 (bCells g.3)) ++ [Value.int IntKind.u8 (0 : Int), Value.int IntKind.u8 (0 : Int),
  Value.int IntKind.u8 (4 : Int), Value.int IntKind.u8 (8 : Int), Value.int IntKind.u8 (0 : Int), Value.int IntKind.u8 (0 : Int), Value.int IntKind.u8 (0 : Int), Value.int
  IntKind.u8 (0 : Int), Value.int IntKind.u8 (0 : Int), Value.int IntKind.u8 (IntKind.wrap IntKind.u8 (ishr IntKind.i64 (Int.ofNat (cellN [Value.int IntKind.i64 (0 : Int),
  Value.int IntKind.i64 (8 : Int), Value.int IntKind.i64 (1 : Int), Value.slice (some (Addr.mk (yZ (Row.mk (List.take ((9 + g.9) * 1) (Value.int IntKind.u8 (IntKind.wrap
  IntKind.u8 (ishr IntKind.i64 (Int.ofNat g.9) (16 : Int))) :: Value.int IntKind.u8 (IntKind.wrap IntKind.u8 (ishr IntKind.i64 (Int.ofNat g.9) (8 : Int))) :: Value.int
  IntKind.u8 (IntKind.wrap IntKind.u8 (Int.ofNat g.9)) :: Value.int IntKind.u8 (0 : Int) :: Value.int IntKind.u8 (8 : Int) :: Value.int IntKind.u8 (0 : Int) :: Value.int
  IntKind.u8 (0 : Int) :: Value.int IntKind.u8 (0 : Int) :: Value.int IntKind.u8 (1 : Int) :: ([] ++ List.take (g.9 * 1) (List.drop 0 (bCells g.8))))) true (Ob.cells true)))
  0 (some 0))) (9 + g.9 - 9) 1] 3)) (24 : Int))), Value.int IntKind.u8 (IntKind.wrap IntKind.u8 (ishr IntKind.i64 (Int.ofNat (cellN [Value.int IntKind.i64 (0 : Int),
  Value.int IntKind.i64 (8 : Int), Value.int IntKind.i64 (1 : Int), Value.slice (some (Addr.mk (yZ (Row.mk (List.take ((9 + g.9) * 1) (Value.int IntKind.u8 (IntKind.wrap
  IntKind.u8 (ishr IntKind.i64 (Int.ofNat g.9) (16 : Int))) :: Value.int IntKind.u8 (IntKind.wrap IntKind.u8 (ishr IntKind.i64 (Int.ofNat g.9) (8 : Int))) :: Value.int
  IntKind.u8 (IntKind.wrap IntKind.u8 (Int.ofNat g.9)) :: Value.int IntKind.u8 (0 : Int) :: Value.int IntKind.u8 (8 : Int) :: Value.int IntKind.u8 (0 : Int) :: Value.int
  IntKind.u8 (0 : Int) :: Value.int IntKind.u8 (0 : Int) :: Value.int IntKind.u8 (1 : Int) :: ([] ++ List.take (g.9 * 1) (List.drop 0 (bCells g.8))))) true (Ob.cells true)))
  0 (some 0))) (9 + g.9 - 9) 1] 3)) (16 : Int))), Value.int IntKind.u8 (IntKind.wrap IntKind.u8 (ishr IntKind.i64 (Int.ofNat (cellN [Value.int IntKind.i64 (0 : Int),
  Value.int IntKind.i64 (8 : Int), Value.int IntKind.i64 (1 : Int), Value.slice (some (Addr.mk (yZ (Row.mk (List.take ((9 + g.9) * 1) (Value.int IntKind.u8 (IntKind.wrap
  IntKind.u8 (ishr IntKind.i64 (Int.ofNat g.9) (16 : Int))) :: Value.int IntKind.u8 (IntKind.wrap IntKind.u8 (ishr IntKind.i64 (Int.ofNat g.9) (8 : Int))) :: Value.int
  IntKind.u8 (IntKind.wrap IntKind.u8 (Int.ofNat g.9)) :: Value.int IntKind.u8 (0 : Int) :: Value.int IntKind.u8 (8 : Int) :: Value.int IntKind.u8 (0 : Int) :: Value.int
  IntKind.u8 (0 : Int) :: Value.int IntKind.u8 (0 : Int) :: Value.int IntKind.u8 (1 : Int) :: ([] ++ List.take (g.9 * 1) (List.drop 0 (bCells g.8))))) true (Ob.cells true)))
  0 (some 0))) (9 + g.9 - 9) 1] 3)) (8 : Int))), Value.int IntKind.u8 (IntKind.wrap IntKind.u8 (Int.ofNat (cellN [Value.int IntKind.i64 (0 : Int), Value.int IntKind.i64 (8 :
  Int), Value.int IntKind.i64 (1 : Int), Value.slice (some (Addr.mk (yZ (Row.mk (List.take ((9 + g.9) * 1) (Value.int IntKind.u8 (IntKind.wrap IntKind.u8 (ishr IntKind.i64
  (Int.ofNat g.9) (16 : Int))) :: Value.int IntKind.u8 (IntKind.wrap IntKind.u8 (ishr IntKind.i64 (Int.ofNat g.9) (8 : Int))) :: Value.int IntKind.u8 (IntKind.wrap
  IntKind.u8 (Int.ofNat g.9)) :: Value.int IntKind.u8 (0 : Int) :: Value.int IntKind.u8 (8 : Int) :: Value.int IntKind.u8 (0 : Int) :: Value.int IntKind.u8 (0 : Int) ::
  Value.int IntKind.u8 (0 : Int) :: Value.int IntKind.u8 (1 : Int) :: ([] ++ List.take (g.9 * 1) (List.drop 0 (bCells g.8))))) true (Ob.cells true))) 0 (some 0))) (9 + g.9 -
  9) 1] 3)))]) /\ ((True /\ (True /\ (True /\ (True /\ (True /\ (True /\ True)))))) /\ ((True /\ (True /\ (True /\ (True /\ True)))) /\ ((True /\ (True /\ (True /\ True)))
  /\ (Plain [Value.int IntKind.i64 (1 : Int)] /\ (Plain (bCells (yP (Row.mk (List.take ((9 + g.9) * 1) (Value.int IntKind.u8 (IntKind.wrap IntKind.u8 (ishr IntKind.i64
  (Int.ofNat g.9) (16 : Int))) :: Value.int IntKind.u8 (IntKind.wrap IntKind.u8 (ishr IntKind.i64 (Int.ofNat g.9) (8 : Int))) :: Value.int IntKind.u8 (IntKind.wrap
  IntKind.u8 (Int.ofNat g.9)) :: Value.int IntKind.u8 (0 : Int) :: Value.int IntKind.u8 (8 : Int) :: Value.int IntKind.u8 (0 : Int) :: Value.int IntKind.u8 (0 : Int) ::
  Value.int IntKind.u8 (0 : Int) :: Value.int IntKind.u8 (1 : Int) :: ([] ++ List.take (g.9 * 1) (List.drop 0 (bCells g.8))))) true (Ob.cells true)))) /\ ((True /\ (True /\
  (True /\ True))) /\ ((True /\ (True /\ (True /\ True))) /\ True))))))))) /\ ((Plain (List.take (g.5 * 1) (List.drop g.4 (bCells g.3)) ++ [Value.int IntKind.u8 (0 : Int),
  Value.int IntKind.u8 (0 : Int), Value.int IntKind.u8 (4 : Int), Value.int IntKind.u8 (8 : Int), Value.int IntKind.u8 (0 : Int), Value.int IntKind.u8 (0 : Int), Value.int
  IntKind.u8 (0 : Int), Value.int IntKind.u8 (0 : Int), Value.int IntKind.u8 (0 : Int), Value.int IntKind.u8 (IntKind.wrap IntKind.u8 (ishr IntKind.i64 (Int.ofNat (cellN
  [Value.int IntKind.i64 (0 : Int), Value.int IntKind.i64 (8 : Int), Value.int IntKind.i64 (1 : Int), Value.slice (some (Addr.mk (yZ (Row.mk (List.take ((9 + g.9) * 1)
  (Value.int IntKind.u8 (IntKind.wrap IntKind.u8 (ishr IntKind.i64 (Int.ofNat g.9) (16 : Int))) :: Value.int IntKind.u8 (IntKind.wrap IntKind.u8 (ishr IntKind.i64 (Int.ofNat
  g.9) (8 : Int))) :: Value.int IntKind.u8 (IntKind.wrap IntKind.u8 (Int.ofNat g.9)) :: Value.int IntKind.u8 (0 : Int) :: Value.int IntKind.u8 (8 : Int) :: Value.int
  IntKind.u8 (0 : Int) :: Value.int IntKind.u8 (0 : Int) :: Value.int IntKind.u8 (0 : Int) :: Value.int IntKind.u8 (1 : Int) :: ([] ++ List.take (g.9 * 1) (List.drop 0
  (bCells g.8))))) true (Ob.cells true))) 0 (some 0))) (9 + g.9 - 9) 1] 3)) (24 : Int))), Value.int IntKind.u8 (IntKind.wrap IntKind.u8 (ishr IntKind.i64 (Int.ofNat (cellN
  [Value.int IntKind.i64 (0 : Int), Value.int IntKind.i64 (8 : Int), Value.int IntKind.i64 (1 : Int), Value.slice (some (Addr.mk (yZ (Row.mk (List.take ((9 + g.9) * 1)
  (Value.int IntKind.u8 (IntKind.wrap IntKind.u8 (ishr IntKind.i64 (Int.ofNat g.9) (16 : Int))) :: Value.int IntKind.u8 (IntKind.wrap IntKind.u8 (ishr IntKind.i64 (Int.ofNat
  g.9) (8 : Int))) :: Value.int IntKind.u8 (IntKind.wrap IntKind.u8 (Int.ofNat g.9)) :: Value.int IntKind.u8 (0 : Int) :: Value.int IntKind.u8 (8 : Int) :: Value.int
  IntKind.u8 (0 : Int) :: Value.int IntKind.u8 (0 : Int) :: Value.int IntKind.u8 (0 : Int) :: Value.int IntKind.u8 (1 : Int) :: ([] ++ List.take (g.9 * 1) (List.drop 0
  (bCells g.8))))) true (Ob.cells true))) 0 (some 0))) (9 + g.9 - 9) 1] 3)) (16 : Int))), Value.int IntKind.u8 (IntKind.wrap IntKind.u8 (ishr IntKind.i64 (Int.ofNat (cellN
  [Value.int IntKind.i64 (0 : Int), Value.int IntKind.i64 (8 : Int), Value.int IntKind.i64 (1 : Int), Value.slice (some (Addr.mk (yZ (Row.mk (List.take ((9 + g.9) * 1)
  (Value.int IntKind.u8 (IntKind.wrap IntKind.u8 (ishr IntKind.i64 (Int.ofNat g.9) (16 : Int))) :: Value.int IntKind.u8 (IntKind.wrap IntKind.u8 (ishr IntKind.i64 (Int.ofNat
  g.9) (8 : Int))) :: Value.int IntKind.u8 (IntKind.wrap IntKind.u8 (Int.ofNat g.9)) :: Value.int IntKind.u8 (0 : Int) :: Value.int IntKind.u8 (8 : Int) :: Value.int
  IntKind.u8 (0 : Int) :: Value.int IntKind.u8 (0 : Int) :: Value.int IntKind.u8 (0 : Int) :: Value.int IntKind.u8 (1 : Int) :: ([] ++ List.take (g.9 * 1) (List.drop 0
  (bCells g.8))))) true (Ob.cells true))) 0 (some 0))) (9 + g.9 - 9) 1] 3)) (8 : Int))), Value.int IntKind.u8 (IntKind.wrap IntKind.u8 (Int.ofNat (cellN [Value.int
  IntKind.i64 (0 : Int), Value.int IntKind.i64 (8 : Int), Value.int IntKind.i64 (1 : Int), Value.slice (some (Addr.mk (yZ (Row.mk (List.take ((9 + g.9) * 1) (Value.int
  IntKind.u8 (IntKind.wrap IntKind.u8 (ishr IntKind.i64 (Int.ofNat g.9) (16 : Int))) :: Value.int IntKind.u8 (IntKind.wrap IntKind.u8 (ishr IntKind.i64 (Int.ofNat g.9) (8 :
  Int))) :: Value.int IntKind.u8 (IntKind.wrap IntKind.u8 (Int.ofNat g.9)) :: Value.int IntKind.u8 (0 : Int) :: Value.int IntKind.u8 (8 : Int) :: Value.int IntKind.u8 (0 :
  Int) :: Value.int IntKind.u8 (0 : Int) :: Value.int IntKind.u8 (0 : Int) :: Value.int IntKind.u8 (1 : Int) :: ([] ++ List.take (g.9 * 1) (List.drop 0 (bCells g.8))))) true
  (Ob.cells true))) 0 (some 0))) (9 + g.9 - 9) 1] 3)))]) /\ (Plain [Value.int IntKind.i64 (1 : Int)] /\ (Plain (bCells (yP (Row.mk (List.take ((9 + g.9) * 1) (Value.int
  IntKind.u8 (IntKind.wrap IntKind.u8 (ishr IntKind.i64 (Int.ofNat g.9) (16 : Int))) :: Value.int IntKind.u8 (IntKind.wrap IntKind.u8 (ishr IntKind.i64 (Int.ofNat g.9) (8 :
  Int))) :: Value.int IntKind.u8 (IntKind.wrap IntKind.u8 (Int.ofNat g.9)) :: Value.int IntKind.u8 (0 : Int) :: Value.int IntKind.u8 (8 : Int) :: Value.int IntKind.u8 (0 :
  Int) :: Value.int IntKind.u8 (0 : Int) :: Value.int IntKind.u8 (0 : Int) :: Value.int IntKind.u8 (1 : Int) :: ([] ++ List.take (g.9 * 1) (List.drop 0 (bCells g.8))))) true
  (Ob.cells true)))) /\ (Plain (bCells (woZ (Row.mk (List.take (g.5 * 1) (List.drop g.4 (bCells g.3)) ++ [Value.int IntKind.u8 (0 : Int), Value.int IntKind.u8 (0 : Int),
  Value.int IntKind.u8 (4 : Int), Value.int IntKind.u8 (8 : Int), Value.int IntKind.u8 (0 : Int), Value.int IntKind.u8 (0 : Int), Value.int IntKind.u8 (0 : Int), Value.int
  IntKind.u8 (0 : Int), Value.int IntKind.u8 (0 : Int), Value.int IntKind.u8 (IntKind.wrap IntKind.u8 (ishr IntKind.i64 (Int.ofNat (cellN [Value.int IntKind.i64 (0 : Int),
  Value.int IntKind.i64 (8 : Int), Value.int IntKind.i64 (1 : Int), Value.slice (some (Addr.mk (yZ (Row.mk (List.take ((9 + g.9) * 1) (Value.int IntKind.u8 (IntKind.wrap
  IntKind.u8 (ishr IntKind.i64 (Int.ofNat g.9) (16 : Int))) :: Value.int IntKind.u8 (IntKind.wrap IntKind.u8 (ishr IntKind.i64 (Int.ofNat g.9) (8 : Int))) :: Value.int
  IntKind.u8 (IntKind.wrap IntKind.u8 (Int.ofNat g.9)) :: Value.int IntKind.u8 (0 : Int) :: Value.int IntKind.u8 (8 : Int) :: Value.int IntKind.u8 (0 : Int) :: Value.int
  IntKind.u8 (0 : Int) :: Value.int IntKind.u8 (0 : Int) :: Value.int IntKind.u8 (1 : Int) :: ([] ++ List.take (g.9 * 1) (List.drop 0 (bCells g.8))))) true (Ob.cells true)))
  0 (some 0))) (9 + g.9 - 9) 1] 3)) (24 : Int))), Value.int IntKind.u8 (IntKind.wrap IntKind.u8 (ishr IntKind.i64 (Int.ofNat (cellN [Value.int IntKind.i64 (0 : Int),
  Value.int IntKind.i64 (8 : Int), Value.int IntKind.i64 (1 : Int), Value.slice (some (Addr.mk (yZ (Row.mk (List.take ((9 + g.9) * 1) (Value.int IntKind.u8 (IntKind.wrap
  IntKind.u8 (ishr IntKind.i64 (Int.ofNat g.9) (16 : Int))) :: Value.int IntKind.u8 (IntKind.wrap IntKind.u8 (ishr IntKind.i64 (Int.ofNat g.9) (8 : Int))) :: Value.int
  IntKind.u8 (IntKind.wrap IntKind.u8 (Int.ofNat g.9)) :: Value.int IntKind.u8 (0 : Int) :: Value.int IntKind.u8 (8 : Int) :: Value.int IntKind.u8 (0 : Int) :: Value.int
  IntKind.u8 (0 : Int) :: Value.int IntKind.u8 (0 : Int) :: Value.int IntKind.u8 (1 : Int) :: ([] ++ List.take (g.9 * 1) (List.drop 0 (bCells g.8))))) true (Ob.cells true)))
  0 (some 0))) (9 + g.9 - 9) 1] 3)) (16 : Int))), Value.int IntKind.u8 (IntKind.wrap IntKind.u8 (ishr IntKind.i64 (Int.ofNat (cellN [Value.int IntKind.i64 (0 : Int),
  Value.int IntKind.i64 (8 : Int), Value.int IntKind.i64 (1 : Int), Value.slice (some (Addr.mk (yZ (Row.mk (List.take ((9 + g.9) * 1) (Value.int IntKind.u8 (IntKind.wrap
  IntKind.u8 (ishr IntKind.i64 (Int.ofNat g.9) (16 : Int))) :: Value.int IntKind.u8 (IntKind.wrap IntKind.u8 (ishr IntKind.i64 (Int.ofNat g.9) (8 : Int))) :: Value.int
  IntKind.u8 (IntKind.wrap IntKind.u8 (Int.ofNat g.9)) :: Value.int IntKind.u8 (0 : Int) :: Value.int IntKind.u8 (8 : Int) :: Value.int IntKind.u8 (0 : Int) :: Value.int
  IntKind.u8 (0 : Int) :: Value.int IntKind.u8 (0 : Int) :: Value.int IntKind.u8 (1 : Int) :: ([] ++ List.take (g.9 * 1) (List.drop 0 (bCells g.8))))) true (Ob.cells true)))
  0 (some 0))) (9 + g.9 - 9) 1] 3)) (8 : Int))), Value.int IntKind.u8 (IntKind.wrap IntKind.u8 (Int.ofNat (cellN [Value.int IntKind.i64 (0 : Int), Value.int IntKind.i64 (8 :
  Int), Value.int IntKind.i64 (1 : Int), Value.slice (some (Addr.mk (yZ (Row.mk (List.take ((9 + g.9) * 1) (Value.int IntKind.u8 (IntKind.wrap IntKind.u8 (ishr IntKind.i64
  (Int.ofNat g.9) (16 : Int))) :: Value.int IntKind.u8 (IntKind.wrap IntKind.u8 (ishr IntKind.i64 (Int.ofNat g.9) (8 : Int))) :: Value.int IntKind.u8 (IntKind.wrap
  IntKind.u8 (Int.ofNat g.9)) :: Value.int IntKind.u8 (0 : Int) :: Value.int IntKind.u8 (8 : Int) :: Value.int IntKind.u8 (0 : Int) :: Value.int IntKind.u8 (0 : Int) ::
  Value.int IntKind.u8 (0 : Int) :: Value.int IntKind.u8 (1 : Int) :: ([] ++ List.take (g.9 * 1) (List.drop 0 (bCells g.8))))) true (Ob.cells true))) 0 (some 0))) (9 + g.9 -
  9) 1] 3)))]) false (Ob.cells true)) 0)) /\ True)))) /\ (Row.mk [Value.bool true, Value.int IntKind.i64 (2 : Int), Value.int IntKind.i64 (65535 : Int), Value.int
  IntKind.i64 (65536 : Int), Value.int IntKind.i64 (4096 : Int), Value.int IntKind.i64 (2147483647 : Int), Value.int IntKind.i64 (65535 : Int), Value.int IntKind.i64 (16384
  : Int), Value.int IntKind.i64 (2147483647 : Int), Value.slice (some (Addr.mk 1 0 none)) (g.5 + 13) 1, Value.pointer (some (Addr.mk 2 0 none)), Value.pointer (some (Addr.mk
  3 0 none)), Value.pointer (some (Addr.mk 4 0 none)), Value.int IntKind.i64 (65535 : Int), Value.int IntKind.i64 (IntKind.wrap IntKind.i64 (IntKind.wrap IntKind.i64 ((65535
  : Int) - Int.ofNat (cellN [Value.int IntKind.i64 (0 : Int), Value.int IntKind.i64 (8 : Int), Value.int IntKind.i64 (1 : Int), Value.slice (some (Addr.mk (yZ (Row.mk
  (List.take ((9 + g.9) * 1) (Value.int IntKind.u8 (IntKind.wrap IntKind.u8 (ishr IntKind.i64 (Int.ofNat g.9) (16 : Int))) :: Value.int IntKind.u8 (IntKind.wrap IntKind.u8
  (ishr IntKind.i64 (Int.ofNat g.9) (8 : Int))) :: Value.int IntKind.u8 (IntKind.wrap IntKind.u8 (Int.ofNat g.9)) :: Value.int IntKind.u8 (0 : Int) :: Value.int IntKind.u8
  (8 : Int) :: Value.int IntKind.u8 (0 : Int) :: Value.int IntKind.u8 (0 : Int) :: Value.int IntKind.u8 (0 : Int) :: Value.int IntKind.u8 (1 : Int) :: ([] ++ List.take (g.9
  * 1) (List.drop 0 (bCells g.8))))) true (Ob.cells true))) 0 (some 0))) (9 + g.9 - 9) 1] 3)) + Int.ofNat (cellN [Value.int IntKind.i64 (0 : Int), Value.int IntKind.i64 (8 :
  Int), Value.int IntKind.i64 (1 : Int), Value.slice (some (Addr.mk (yZ (Row.mk (List.take ((9 + g.9) * 1) (Value.int IntKind.u8 (IntKind.wrap IntKind.u8 (ishr IntKind.i64
  (Int.ofNat g.9) (16 : Int))) :: Value.int IntKind.u8 (IntKind.wrap IntKind.u8 (ishr IntKind.i64 (Int.ofNat g.9) (8 : Int))) :: Value.int IntKind.u8 (IntKind.wrap
  IntKind.u8 (Int.ofNat g.9)) :: Value.int IntKind.u8 (0 : Int) :: Value.int IntKind.u8 (8 : Int) :: Value.int IntKind.u8 (0 : Int) :: Value.int IntKind.u8 (0 : Int) ::
  Value.int IntKind.u8 (0 : Int) :: Value.int IntKind.u8 (1 : Int) :: ([] ++ List.take (g.9 * 1) (List.drop 0 (bCells g.8))))) true (Ob.cells true))) 0 (some 0))) (9 + g.9 -
  9) 1] 3))), Value.slice none 0 0, Value.slice (some (Addr.mk 5 0 none)) 1 1, Value.int IntKind.i64 (1 : Int), Value.int IntKind.i64 (1 : Int), Value.bool true, Value.bool
  false, Value.bool false, Value.bool false, Value.bool false, Value.int IntKind.i64 (0 : Int), Value.slice none 0 0, Value.bool false, Value.slice none 0 0] false (Ob.cells
  false) = Row.mk [Value.bool true, Value.int IntKind.i64 (2 : Int), Value.int IntKind.i64 (65535 : Int), Value.int IntKind.i64 (65536 : Int), Value.int IntKind.i64 (4096 :
  Int), Value.int IntKind.i64 (2147483647 : Int), Value.int IntKind.i64 (65535 : Int), Value.int IntKind.i64 (16384 : Int), Value.int IntKind.i64 (2147483647 : Int),
  Value.slice (some (Addr.mk 1 0 none)) (g.5 + 13) 1, Value.pointer (some (Addr.mk 2 0 none)), Value.pointer (some (Addr.mk 3 0 none)), Value.pointer (some (Addr.mk 4 0
  none)), Value.int IntKind.i64 (65535 : Int), Value.int IntKind.i64 (65535 : Int), Value.slice none 0 0, Value.slice (some (Addr.mk 5 0 none)) 1 1, Value.int IntKind.i64 (1
  : Int), Value.int IntKind.i64 (1 : Int), Value.bool true, Value.bool false, Value.bool false, Value.bool false, Value.bool false, Value.int IntKind.i64 (0 : Int),
  Value.slice none 0 0, Value.bool false, Value.slice none 0 0] false (Ob.cells false) /\ (OkQ (Row.mk (List.take (g.5 * 1) (List.drop g.4 (bCells g.3)) ++ [Value.int
  IntKind.u8 (0 : Int), Value.int IntKind.u8 (0 : Int), Value.int IntKind.u8 (4 : Int), Value.int IntKind.u8 (8 : Int), Value.int IntKind.u8 (0 : Int), Value.int IntKind.u8
  (0 : Int), Value.int IntKind.u8 (0 : Int), Value.int IntKind.u8 (0 : Int), Value.int IntKind.u8 (0 : Int), Value.int IntKind.u8 (IntKind.wrap IntKind.u8 (ishr IntKind.i64
  (Int.ofNat (cellN [Value.int IntKind.i64 (0 : Int), Value.int IntKind.i64 (8 : Int), Value.int IntKind.i64 (1 : Int), Value.slice (some (Addr.mk (yZ (Row.mk (List.take ((9
  + g.9) * 1) (Value.int IntKind.u8 (IntKind.wrap IntKind.u8 (ishr IntKind.i64 (Int.ofNat g.9) (16 : Int))) :: Value.int IntKind.u8 (IntKind.wrap IntKind.u8 (ishr
  IntKind.i64 (Int.ofNat g.9) (8 : Int))) :: Value.int IntKind.u8 (IntKind.wrap IntKind.u8 (Int.ofNat g.9)) :: Value.int IntKind.u8 (0 : Int) :: Value.int IntKind.u8 (8 :
  Int) :: Value.int IntKind.u8 (0 : Int) :: Value.int IntKind.u8 (0 : Int) :: Value.int IntKind.u8 (0 : Int) :: Value.int IntKind.u8 (1 : Int) :: ([] ++ List.take (g.9 * 1)
  (List.drop 0 (bCells g.8))))) true (Ob.cells true))) 0 (some 0))) (9 + g.9 - 9) 1] 3)) (24 : Int))), Value.int IntKind.u8 (IntKind.wrap IntKind.u8 (ishr IntKind.i64
  (Int.ofNat (cellN [Value.int IntKind.i64 (0 : Int), Value.int IntKind.i64 (8 : Int), Value.int IntKind.i64 (1 : Int), Value.slice (some (Addr.mk (yZ (Row.mk (List.take ((9
  + g.9) * 1) (Value.int IntKind.u8 (IntKind.wrap IntKind.u8 (ishr IntKind.i64 (Int.ofNat g.9) (16 : Int))) :: Value.int IntKind.u8 (IntKind.wrap IntKind.u8 (ishr
  IntKind.i64 (Int.ofNat g.9) (8 : Int))) :: Value.int IntKind.u8 (IntKind.wrap IntKind.u8 (Int.ofNat g.9)) :: Value.int IntKind.u8 (0 : Int) :: Value.int IntKind.u8 (8 :
  Int) :: Value.int IntKind.u8 (0 : Int) :: Value.int IntKind.u8 (0 : Int) :: Value.int IntKind.u8 (0 : Int) :: Value.int IntKind.u8 (1 : Int) :: ([] ++ List.take (g.9 * 1)
  (List.drop 0 (bCells g.8))))) true (Ob.cells true))) 0 (some 0))) (9 + g.9 - 9) 1] 3)) (16 : Int))), Value.int IntKind.u8 (IntKind.wrap IntKind.u8 (ishr IntKind.i64
  (Int.ofNat (cellN [Value.int IntKind.i64 (0 : Int), Value.int IntKind.i64 (8 : Int), Value.int IntKind.i64 (1 : Int), Value.slice (some (Addr.mk (yZ (Row.mk (List.take ((9
  + g.9) * 1) (Value.int IntKind.u8 (IntKind.wrap IntKind.u8 (ishr IntKind.i64 (Int.ofNat g.9) (16 : Int))) :: Value.int IntKind.u8 (IntKind.wrap IntKind.u8 (ishr
  IntKind.i64 (Int.ofNat g.9) (8 : Int))) :: Value.int IntKind.u8 (IntKind.wrap IntKind.u8 (Int.ofNat g.9)) :: Value.int IntKind.u8 (0 : Int) :: Value.int IntKind.u8 (8 :
  Int) :: Value.int IntKind.u8 (0 : Int) :: Value.int IntKind.u8 (0 : Int) :: Value.int IntKind.u8 (0 : Int) :: Value.int IntKind.u8 (1 : Int) :: ([] ++ List.take (g.9 * 1)
  (List.drop 0 (bCells g.8))))) true (Ob.cells true))) 0 (some 0))) (9 + g.9 - 9) 1] 3)) (8 : Int))), Value.int IntKind.u8 (IntKind.wrap IntKind.u8 (Int.ofNat (cellN
  [Value.int IntKind.i64 (0 : Int), Value.int IntKind.i64 (8 : Int), Value.int IntKind.i64 (1 : Int), Value.slice (some (Addr.mk (yZ (Row.mk (List.take ((9 + g.9) * 1)
  (Value.int IntKind.u8 (IntKind.wrap IntKind.u8 (ishr IntKind.i64 (Int.ofNat g.9) (16 : Int))) :: Value.int IntKind.u8 (IntKind.wrap IntKind.u8 (ishr IntKind.i64 (Int.ofNat
  g.9) (8 : Int))) :: Value.int IntKind.u8 (IntKind.wrap IntKind.u8 (Int.ofNat g.9)) :: Value.int IntKind.u8 (0 : Int) :: Value.int IntKind.u8 (8 : Int) :: Value.int
  IntKind.u8 (0 : Int) :: Value.int IntKind.u8 (0 : Int) :: Value.int IntKind.u8 (0 : Int) :: Value.int IntKind.u8 (1 : Int) :: ([] ++ List.take (g.9 * 1) (List.drop 0
  (bCells g.8))))) true (Ob.cells true))) 0 (some 0))) (9 + g.9 - 9) 1] 3)))]) false (Ob.cells true)) 0 (g.5 + 13) (1048576 : Int) /\ ((0 = 0 /\ ((16384 : Int) = (16384 :
  Int) /\ (ByteArray.mk #[] = ByteArray.mk #[] /\ ((0 : Int) = (0 : Int) /\ ((0 : Int) = (0 : Int) /\ (0 : Int) = (0 : Int)))))) /\ (Row.mk [Value.pointer (some (Addr.mk 7 0
  none)), Value.int IntKind.i64 (4096 : Int), Value.int IntKind.i64 (65536 : Int), Value.bool false] false (Ob.cells false) = Row.mk [Value.pointer (some (Addr.mk 7 0
  none)), Value.int IntKind.i64 (4096 : Int), Value.int IntKind.i64 (65536 : Int), Value.bool false] false (Ob.cells false) /\ (Row.mk [Value.pointer (some (Addr.mk 8 0
  none)), Value.bool false, Value.int IntKind.i64 (0 : Int)] false (Ob.cells false) = Row.mk [Value.pointer (some (Addr.mk 8 0 none)), Value.bool false, Value.int
  IntKind.i64 (0 : Int)] false (Ob.cells false) /\ (Row.mk [Value.int IntKind.i64 (1 : Int)] false (Ob.cells true) = Row.mk [Value.int IntKind.i64 (1 : Int)] false (Ob.cells
  true) /\ (OkL (Row.mk (bCells (yP (Row.mk (List.take ((9 + g.9) * 1) (Value.int IntKind.u8 (IntKind.wrap IntKind.u8 (ishr IntKind.i64 (Int.ofNat g.9) (16 : Int))) ::
  Value.int IntKind.u8 (IntKind.wrap IntKind.u8 (ishr IntKind.i64 (Int.ofNat g.9) (8 : Int))) :: Value.int IntKind.u8 (IntKind.wrap IntKind.u8 (Int.ofNat g.9)) :: Value.int
  IntKind.u8 (0 : Int) :: Value.int IntKind.u8 (8 : Int) :: Value.int IntKind.u8 (0 : Int) :: Value.int IntKind.u8 (0 : Int) :: Value.int IntKind.u8 (0 : Int) :: Value.int
  IntKind.u8 (1 : Int) :: ([] ++ List.take (g.9 * 1) (List.drop 0 (bCells g.8))))) true (Ob.cells true)))) false (Ob.cells true)) /\ (Row.mk [Value.slice none 0 0, Value.int
  IntKind.i64 (0 : Int), Value.int IntKind.i64 (4096 : Int)] false (Ob.cells false) = Row.mk [Value.slice none 0 0, Value.int IntKind.i64 (0 : Int), Value.int IntKind.i64
  (4096 : Int)] false (Ob.cells false) /\ Row.mk [Value.slice none 0 0, Value.int IntKind.i64 (0 : Int), Value.int IntKind.i64 (4096 : Int)] false (Ob.cells false) = Row.mk
  [Value.slice none 0 0, Value.int IntKind.i64 (0 : Int), Value.int IntKind.i64 (4096 : Int)] false (Ob.cells false))))))))))))) /\ (∃ y : Unit, ((True) /\ (((↑(UInt8.toNat
  g.1) : Int) = (↑(UInt8.toNat g.1) : Int)) /\ ((0 = 0) /\ (((↑g.2 : Int) = (↑g.2 : Int)) /\ ((true = true) /\ (((2 : Int) = (2 : Int)) /\ (((65535 : Int) = (65535 : Int))
  /\ (((65536 : Int) = (65536 : Int)) /\ (((4096 : Int) = (4096 : Int)) /\ (((2147483647 : Int) = (2147483647 : Int)) /\ (((65535 : Int) = (65535 : Int)) /\ (((16384 : Int)
  = (16384 : Int)) /\ (((2147483647 : Int) = (2147483647 : Int)) /\ ((g.5 + 13 = 0 + (0 + (g.5 + 13))) /\ ((0 = 0) /\ ((0 = 0) /\ ((0 = 0) /\ ((0 = 0) /\ (((65535 : Int) =
  (65535 : Int)) /\ (((65535 : Int) = (65535 : Int)) /\ ((0 = 0) /\ ((1 = 1) /\ (((1 : Int) = (1 : Int)) /\ (((1 : Int) = (1 : Int)) /\ ((true = true) /\ ((false = false) /\
  ((false = false) /\ ((false = false) /\ ((false = false) /\ (((0 : Int) = (0 : Int)) /\ ((false = false) /\ ((Eq (α := List Value) (bCells (List.take g.5 (List.drop g.4
  g.3) ++ [0, 0, 4, 8, 0, 0, 0, 0, 0, by8 (ishr IntKind.i64 (↑g.9 : Int) (24 : Int)), by8 (ishr IntKind.i64 (↑g.9 : Int) (16 : Int)), by8 (ishr IntKind.i64 (↑g.9 : Int) (8 :
  Int)), by8 (↑g.9 : Int)])) (List.take (g.5 * 1) (List.drop g.4 (bCells g.3)) ++ [Value.int IntKind.u8 (0 : Int), Value.int IntKind.u8 (0 : Int), Value.int IntKind.u8 (4 :
  Int), Value.int IntKind.u8 (8 : Int), Value.int IntKind.u8 (0 : Int), Value.int IntKind.u8 (0 : Int), Value.int IntKind.u8 (0 : Int), Value.int IntKind.u8 (0 : Int),
  Value.int IntKind.u8 (0 : Int), Value.int IntKind.u8 (IntKind.wrap IntKind.u8 (ishr IntKind.i64 (Int.ofNat (cellN [Value.int IntKind.i64 (0 : Int), Value.int IntKind.i64
  (8 : Int), Value.int IntKind.i64 (1 : Int), Value.slice (some (Addr.mk (yZ (Row.mk (List.take ((9 + g.9) * 1) (Value.int IntKind.u8 (IntKind.wrap IntKind.u8 (ishr
  IntKind.i64 (Int.ofNat g.9) (16 : Int))) :: Value.int IntKind.u8 (IntKind.wrap IntKind.u8 (ishr IntKind.i64 (Int.ofNat g.9) (8 : Int))) :: Value.int IntKind.u8
  (IntKind.wrap IntKind.u8 (Int.ofNat g.9)) :: Value.int IntKind.u8 (0 : Int) :: Value.int IntKind.u8 (8 : Int) :: Value.int IntKind.u8 (0 : Int) :: Value.int IntKind.u8 (0
  : Int) :: Value.int IntKind.u8 (0 : Int) :: Value.int IntKind.u8 (1 : Int) :: ([] ++ List.take (g.9 * 1) (List.drop 0 (bCells g.8))))) true (Ob.cells true))) 0 (some 0)))
  (9 + g.9 - 9) 1] 3)) (24 : Int))), Value.int IntKind.u8 (IntKind.wrap IntKind.u8 (ishr IntKind.i64 (Int.ofNat (cellN [Value.int IntKind.i64 (0 : Int), Value.int
  IntKind.i64 (8 : Int), Value.int IntKind.i64 (1 : Int), Value.slice (some (Addr.mk (yZ (Row.mk (List.take ((9 + g.9) * 1) (Value.int IntKind.u8 (IntKind.wrap IntKind.u8
  (ishr IntKind.i64 (Int.ofNat g.9) (16 : Int))) :: Value.int IntKind.u8 (IntKind.wrap IntKind.u8 (ishr IntKind.i64 (Int.ofNat g.9) (8 : Int))) :: Value.int IntKind.u8
  (IntKind.wrap IntKind.u8 (Int.ofNat g.9)) :: Value.int IntKind.u8 (0 : Int) :: Value.int IntKind.u8 (8 : Int) :: Value.int IntKind.u8 (0 : Int) :: Value.int IntKind.u8 (0
  : Int) :: Value.int IntKind.u8 (0 : Int) :: Value.int IntKind.u8 (1 : Int) :: ([] ++ List.take (g.9 * 1) (List.drop 0 (bCells g.8))))) true (Ob.cells true))) 0 (some 0)))
  (9 + g.9 - 9) 1] 3)) (16 : Int))), Value.int IntKind.u8 (IntKind.wrap IntKind.u8 (ishr IntKind.i64 (Int.ofNat (cellN [Value.int IntKind.i64 (0 : Int), Value.int
  IntKind.i64 (8 : Int), Value.int IntKind.i64 (1 : Int), Value.slice (some (Addr.mk (yZ (Row.mk (List.take ((9 + g.9) * 1) (Value.int IntKind.u8 (IntKind.wrap IntKind.u8
  (ishr IntKind.i64 (Int.ofNat g.9) (16 : Int))) :: Value.int IntKind.u8 (IntKind.wrap IntKind.u8 (ishr IntKind.i64 (Int.ofNat g.9) (8 : Int))) :: Value.int IntKind.u8
  (IntKind.wrap IntKind.u8 (Int.ofNat g.9)) :: Value.int IntKind.u8 (0 : Int) :: Value.int IntKind.u8 (8 : Int) :: Value.int IntKind.u8 (0 : Int) :: Value.int IntKind.u8 (0
  : Int) :: Value.int IntKind.u8 (0 : Int) :: Value.int IntKind.u8 (1 : Int) :: ([] ++ List.take (g.9 * 1) (List.drop 0 (bCells g.8))))) true (Ob.cells true))) 0 (some 0)))
  (9 + g.9 - 9) 1] 3)) (8 : Int))), Value.int IntKind.u8 (IntKind.wrap IntKind.u8 (Int.ofNat (cellN [Value.int IntKind.i64 (0 : Int), Value.int IntKind.i64 (8 : Int),
  Value.int IntKind.i64 (1 : Int), Value.slice (some (Addr.mk (yZ (Row.mk (List.take ((9 + g.9) * 1) (Value.int IntKind.u8 (IntKind.wrap IntKind.u8 (ishr IntKind.i64
  (Int.ofNat g.9) (16 : Int))) :: Value.int IntKind.u8 (IntKind.wrap IntKind.u8 (ishr IntKind.i64 (Int.ofNat g.9) (8 : Int))) :: Value.int IntKind.u8 (IntKind.wrap
  IntKind.u8 (Int.ofNat g.9)) :: Value.int IntKind.u8 (0 : Int) :: Value.int IntKind.u8 (8 : Int) :: Value.int IntKind.u8 (0 : Int) :: Value.int IntKind.u8 (0 : Int) ::
  Value.int IntKind.u8 (0 : Int) :: Value.int IntKind.u8 (1 : Int) :: ([] ++ List.take (g.9 * 1) (List.drop 0 (bCells g.8))))) true (Ob.cells true))) 0 (some 0))) (9 + g.9 -
  9) 1] 3)))])) /\ ((Plain (bCells (List.take g.5 (List.drop g.4 g.3) ++ [0, 0, 4, 8, 0, 0, 0, 0, 0, by8 (ishr IntKind.i64 (↑g.9 : Int) (24 : Int)), by8 (ishr IntKind.i64
  (↑g.9 : Int) (16 : Int)), by8 (ishr IntKind.i64 (↑g.9 : Int) (8 : Int)), by8 (↑g.9 : Int)]))) /\ ((9 + g.9 = 0 + (0 + (9 + g.9))) /\ ((0 = 0) /\ (((16384 : Int) = (16384 :
  Int)) /\ ((ByteArray.mk #[] = ByteArray.mk #[]) /\ (((0 : Int) = (0 : Int)) /\ (((0 : Int) = (0 : Int)) /\ (((0 : Int) = (0 : Int)) /\ ((Eq (α := List Value) (Value.int
  IntKind.u8 (↑(UInt8.toNat (by8 (ishr IntKind.i64 (↑(List.length g.8) : Int) (16 : Int)))) : Int) :: Value.int IntKind.u8 (↑(UInt8.toNat (by8 (ishr IntKind.i64
  (↑(List.length g.8) : Int) (8 : Int)))) : Int) :: Value.int IntKind.u8 (↑(UInt8.toNat (by8 (↑(List.length g.8) : Int))) : Int) :: Value.int IntKind.u8 (0 : Int) ::
  Value.int IntKind.u8 (8 : Int) :: Value.int IntKind.u8 (0 : Int) :: Value.int IntKind.u8 (0 : Int) :: Value.int IntKind.u8 (0 : Int) :: Value.int IntKind.u8 (1 : Int) ::
  List.map bVal ([] ++ g.8)) (bCells (yP (Row.mk (List.take ((9 + g.9) * 1) (Value.int IntKind.u8 (IntKind.wrap IntKind.u8 (ishr IntKind.i64 (Int.ofNat g.9) (16 : Int))) ::
  Value.int IntKind.u8 (IntKind.wrap IntKind.u8 (ishr IntKind.i64 (Int.ofNat g.9) (8 : Int))) :: Value.int IntKind.u8 (IntKind.wrap IntKind.u8 (Int.ofNat g.9)) :: Value.int
  IntKind.u8 (0 : Int) :: Value.int IntKind.u8 (8 : Int) :: Value.int IntKind.u8 (0 : Int) :: Value.int IntKind.u8 (0 : Int) :: Value.int IntKind.u8 (0 : Int) :: Value.int
  IntKind.u8 (1 : Int) :: ([] ++ List.take (g.9 * 1) (List.drop 0 (bCells g.8))))) true (Ob.cells true))))) /\ ((Plain (Value.int IntKind.u8 (↑(UInt8.toNat (by8 (ishr
  IntKind.i64 (↑(List.length g.8) : Int) (16 : Int)))) : Int) :: Value.int IntKind.u8 (↑(UInt8.toNat (by8 (ishr IntKind.i64 (↑(List.length g.8) : Int) (8 : Int)))) : Int) ::
  Value.int IntKind.u8 (↑(UInt8.toNat (by8 (↑(List.length g.8) : Int))) : Int) :: Value.int IntKind.u8 (0 : Int) :: Value.int IntKind.u8 (8 : Int) :: Value.int IntKind.u8 (0
  : Int) :: Value.int IntKind.u8 (0 : Int) :: Value.int IntKind.u8 (0 : Int) :: Value.int IntKind.u8 (1 : Int) :: List.map bVal ([] ++ g.8))) /\ ((0 = 0) /\ (((4096 : Int) =
  (4096 : Int)) /\ (((65536 : Int) = (65536 : Int)) /\ ((false = false) /\ ((0 = 0) /\ ((false = false) /\ (((0 : Int) = (0 : Int)) /\ ((Eq (α := List Value) ([Value.int
  IntKind.i64 (1 : Int)]) ([Value.int IntKind.i64 (1 : Int)])) /\ ((Plain [Value.int IntKind.i64 (1 : Int)]) /\ (((0 : Int) = (0 : Int)) /\ (((4096 : Int) = (4096 : Int)) /\
  (((0 : Int) = (0 : Int)) /\ (((4096 : Int) = (4096 : Int)) /\ True))))))))))))))))))))))))))))))))))))))))))))))))))))))))))) False) False))))) False)) False) False)
  False) False)) False) False)) False) False) False) False)) False) False)))))))) False) False) False)) := by kernel_rfl
theorem tBb_ok : ∀ x ∈ tBb, EntOk Tryz.prog x := all_cons eBg_ok (all_cons eRunsG_ok (all_cons eWiG_ok all_nil))
theorem tBk_ok : ∀ x ∈ tBk, EntOk Tryz.prog x := all_cons eRunsG_ok (all_cons eRigT_ok (all_cons eRi9_ok (all_cons (eFdD_ok 8 (by decide)) (all_cons eOuQ_ok all_nil))))
theorem cJ0 (z n : Nat) : cellI [.int .i64 0, .int .i64 8, .int .i64 1, .slice (some ⟨z, 0, some 0⟩) n 1] 0 = 0 := rfl
theorem cJ1 (z n : Nat) : cellI [.int .i64 0, .int .i64 8, .int .i64 1, .slice (some ⟨z, 0, some 0⟩) n 1] 1 = 8 := rfl
theorem cJ2 (z n : Nat) : cellI [.int .i64 0, .int .i64 8, .int .i64 1, .slice (some ⟨z, 0, some 0⟩) n 1] 2 = 1 := rfl
theorem cY3 (z n : Nat) : cellZ [.int .i64 0, .int .i64 8, .int .i64 1, .slice (some ⟨z, 0, some 0⟩) n 1] 3 = z := rfl
theorem cW3 (z n : Nat) : cellO [.int .i64 0, .int .i64 8, .int .i64 1, .slice (some ⟨z, 0, some 0⟩) n 1] 3 = 0 := rfl
theorem cM3 (z n : Nat) : cellN [.int .i64 0, .int .i64 8, .int .i64 1, .slice (some ⟨z, 0, some 0⟩) n 1] 3 = n := rfl
theorem hB_len (fl : Nat) (p : List UInt8) : (hB fl p).length = 9 + p.length := by unfold hB; rw [List.length_append]; rfl
theorem row_hB (p : List UInt8) : List.take (9 + p.length) (Value.int .u8 (IntKind.u8.wrap (ishr .i64 (p.length : Int) 16)) :: Value.int .u8 (IntKind.u8.wrap (ishr .i64 (p.length : Int) 8)) :: Value.int .u8 (IntKind.u8.wrap (p.length : Int)) :: Value.int .u8 0 :: Value.int .u8 8 :: Value.int .u8 0 :: Value.int .u8 0 :: Value.int .u8 0 :: Value.int .u8 1 :: ([] ++ bCells p)) = bCells (hB 8 p) := by
  have e : (Value.int .u8 (IntKind.u8.wrap (ishr .i64 (p.length : Int) 16)) :: Value.int .u8 (IntKind.u8.wrap (ishr .i64 (p.length : Int) 8)) :: Value.int .u8 (IntKind.u8.wrap (p.length : Int)) :: Value.int .u8 0 :: Value.int .u8 8 :: Value.int .u8 0 :: Value.int .u8 0 :: Value.int .u8 0 :: Value.int .u8 1 :: ([] ++ bCells p)) = bCells (hB 8 p) := by
    unfold hB
    rw [← bCells_app, ← headC, by8_v, by8_v, by8_v]
    rfl
  rw [e, List.take_of_length_le (by rw [bCells_len, hB_len]; exact Nat.le_refl _)]
theorem yZ_h (fl : Nat) (p : List UInt8) : yZ ⟨bCells (hB fl p), true, .cells true⟩ = gCode (bCells p) := by
  unfold yZ hB; rw [sealV_eq]; simp only [dB_mk]
  rw [show (9 : Nat) = (headB p.length 0 fl 1).length from rfl, List.drop_left]
theorem yP_h (fl : Nat) (p : List UInt8) : yP ⟨bCells (hB fl p), true, .cells true⟩ = hB fl p := by
  unfold yP; rw [sealV_eq]; simp only [dB_mk]
theorem veq_slz (k z o n : Nat) : veq (k + 1) (.slice (some ⟨z, o, some 0⟩) n 1) (.slice (some ⟨z, o, some 0⟩) n 1) = true := by simp [veq]
theorem frK_pl (z n : Nat) : Plain [.int .i64 0, .int .i64 8, .int .i64 1, .slice (some ⟨z, 0, some 0⟩) n 1] := by
  intro v hv
  simp only [List.mem_cons, List.not_mem_nil, or_false] at hv
  rcases hv with rfl | rfl | rfl | rfl <;> rfl
theorem u8_lt (b : UInt8) : b.toNat < 256 := b.toNat_lt
set_option maxRecDepth 400000 in
theorem Y_piece : PieceOk EBk 0 (9, pY, specY) := by
  refine piece_code tk.mixed (cut_calls (calls_envTc tBk_ok)) cut_lok lm_none (n := 400) (fun g hg => ?_)
  refine (Y_vc g).mpr ?_
  obtain ⟨b, i, q, qk, qn, x, k, p, n⟩ := g
  obtain ⟨h1, h2, h3, h4, h5, h6⟩ := hg
  simp only at h1 h2 h3 h4 h5 h6
  have hp : p.length = n := by rw [h1, h2, List.length_cons, List.length_replicate]
  have hf : p.take n = p := List.take_of_length_le (by omega)
  have hrow := row_hB p
  rw [hp] at hrow
  have hb0 : cellI (bCells p) 0 = (b.toNat : Int) := by rw [h1]; rfl
  have hb1 : (bCells p)[0]? = some (.int .u8 b.toNat) := by rw [h1]; rfl
  have hbl := u8_lt b
  have wb : IntKind.i64.wrap (b.toNat : Int) = (b.toNat : Int) := wr64_id (by unfold I64; omega)
  have wb2 : IntKind.i64.wrap (((n - 1 : Nat) : Int) - (b.toNat : Int)) = ((n - 1 - b.toNat : Nat) : Int) := by rw [wr64_id (by unfold I64; omega)]; omega
  simp only [ofNat_eq, toNat_cast, Nat.zero_add, Nat.add_zero, Nat.mul_one, List.drop_zero, bCells_len, bCells_drop, bCells_take, bCells_app, bCells_one, bCells_plain, List.length_replicate, List.length_append, List.length_take, List.length_drop, List.take_length, and_true, true_and, and_self, decide_true, List.length_nil, List.length_cons, Nat.sub_zero, dB_mk, dB_ro, List.take_zero, Int.toNat_natCast, hf, hp, hrow, yZ_h, yP_h, cJ0, cJ1, cJ2, cY3, cW3, cM3, gCb, Nat.add_sub_cancel_left, hb0, hb1, veq_int, veq_ag1, veq_slz, wb, wb2, Int.toNat_natCast]
  have hR : rightB 0 8 1 n = true := by unfold rightB; exact decide_eq_true (by omega)
  have hI : IsB ⟨bCells p, true, .cells true⟩ n := isB_mk _ _ hp.symm
  have hD : HdR 8 ⟨bCells (hB 8 p), true, .cells true⟩ (9 + n) := ⟨p, rfl, by rw [hp], by omega⟩
  have n0 : ((n : Int) == 0) = false := by simp; omega
  have pF : Plain (bCells [by8 (ishr .i64 (n : Int) 24), by8 (ishr .i64 (n : Int) 16), by8 (ishr .i64 (n : Int) 8), by8 (n : Int)]) := bCells_plain _
  have iF : IsB ⟨bCells [by8 (ishr .i64 (n : Int) 24), by8 (ishr .i64 (n : Int) 16), by8 (ishr .i64 (n : Int) 8), by8 (n : Int)], true, .cells true⟩ 4 := isB_mk _ _ rfl
  have pf4 : bCells [by8 (ishr .i64 (n : Int) 24), by8 (ishr .i64 (n : Int) 16), by8 (ishr .i64 (n : Int) 8), by8 (n : Int)] = [.int .u8 (IntKind.u8.wrap (ishr .i64 (n : Int) 24)), .int .u8 (IntKind.u8.wrap (ishr .i64 (n : Int) 16)), .int .u8 (IntKind.u8.wrap (ishr .i64 (n : Int) 8)), .int .u8 (IntKind.u8.wrap (n : Int))] := by
    rw [by8_v, by8_v, by8_v, by8_v]; rfl
  rw [pf4] at pF iF
  have wq : IntKind.i64.wrap ((qn : Int) + 13) = ((qn + 13 : Nat) : Int) := by rw [wr64_id (by unfold I64; omega)]; omega
  have hh : hB 8 p = headB n 0 8 1 ++ p := by unfold hB; rw [hp]; rfl
  have hpx := bCells_plain (headB n 0 8 1 ++ p)
  refine ⟨⟨Nat.le_refl _, hI, hR⟩, br_dec (Nat.le_refl _) (br_b rfl (br_dec (by omega) ⟨⟨by omega, frK_pl _ _, ⟨x, rfl, h5, by omega⟩, hD⟩, ⟨Nat.le_refl _, hI, hR⟩, ?_⟩))⟩
  refine br_nb n0 (br_dec (by omega) (br_dec (by omega) (br_b rfl (br_dec (by omega) (br_b rfl (br_b rfl (br_b rfl (br_b rfl (br_nd (by omega) (br_dec (by omega) (br_dec (by omega) (br_b rfl (br_dec (by omega) (br_nd (by omega) (br_b rfl (br_nb n0 ⟨⟨⟨Nat.le_refl _, pF⟩, iF⟩, br_nd (by rw [wq]; omega) (br_dec (by omega) (br_dec (by omega) ?_))⟩))))))))))))))))
  have e65 : IntKind.i64.wrap (IntKind.i64.wrap (65535 - (n : Int)) + (n : Int)) = 65535 := by
    rw [wr64_id (by unfold I64; omega : I64 (65535 - (n : Int)))]
    rw [wr64_id (by unfold I64; omega)]; omega
  have hQ : bCells (List.take qn (List.drop qk q)) ++ [.int .u8 0, .int .u8 0, .int .u8 4, .int .u8 8, .int .u8 0, .int .u8 0, .int .u8 0, .int .u8 0, .int .u8 0, .int .u8 (IntKind.u8.wrap (ishr .i64 (n : Int) 24)), .int .u8 (IntKind.u8.wrap (ishr .i64 (n : Int) 16)), .int .u8 (IntKind.u8.wrap (ishr .i64 (n : Int) 8)), .int .u8 (IntKind.u8.wrap (n : Int))] = bCells (List.take qn (List.drop qk q) ++ wuB n) := by
    rw [← bCells_app, by8_v, by8_v, by8_v, by8_v]; rfl
  have hQl : (List.take qn (List.drop qk q) ++ wuB n).length = qn + 13 := by
    rw [List.length_append, List.length_take, List.length_drop, show (wuB n).length = 13 from rfl]; omega
  have pQ := bCells_plain (List.take qn (List.drop qk q) ++ wuB n)
  rw [e65, hQ]
  exact br_nd (by omega) (br_nd (by omega) ⟨⟨⟨pQ, plO⟩, ⟨pQ, plO⟩, rfl, ⟨_, rfl, by rw [hQl]; omega, by rw [hQl]; omega, by decide⟩, ⟨_, rfl⟩⟩, (), rfl, by rw [hh]; rfl, hpx, plO⟩)
end Go.Proofs.YtcallecdjebojaaGreat.cg
