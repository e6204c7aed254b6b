/- ConnWindows: of a text as much goes as the window lets, and more just as it is credited: its rounds. -/
import Derived.Test.YtcallecdjebojaaGreatSz9
import Derived.Test.YtcallecdjebojaaGreatRows
import Derived.Test.YtcallecdjebojaaGreatLcwB
import Derived.Test.YtcallecdjebojaaGreatLints
set_option maxRecDepth 20000
set_option linter.unusedSimpArgs false
set_option linter.unusedVariables false
namespace Go.Proofs.YtcallecdjebojaaGreat.cw
open Go Go.Ev Go.Sy Go.RowKit Go.Proofs.YtcallecdjebojaaGreat.gl Go.Proofs.YtcallecdjebojaaGreat.tk Go.Proofs.YtcallecdjebojaaGreat.cp Go.Proofs.YtcallecdjebojaaGreat.s9 Go.Proofs.YtcallecdjebojaaGreat.fd Go.Proofs.YtcallecdjebojaaGreat.fe Go.Proofs.YtcallecdjebojaaGreat.cu Go.Proofs.YtcallecdjebojaaGreat.cg Go.Proofs.YtcallecdjebojaaGreat.ic
def cnL (v W : Int) (qn : Nat) : Row := ⟨[.bool true, .int .i64 2, .int .i64 65535, .int .i64 65536, .int .i64 4096, .int .i64 2147483647, .int .i64 v, .int .i64 16384, .int .i64 2147483647, .slice (some ⟨2, 0, none⟩) qn 1, .pointer (some ⟨3, 0, none⟩), .pointer (some ⟨5, 0, none⟩), .pointer (some ⟨6, 0, none⟩), .int .i64 W, .int .i64 65535, .slice (some ⟨7, 0, none⟩) 1 1, .slice none 0 0, .int .i64 1, .int .i64 1, .bool true, .bool false, .bool false, .bool false, .bool false, .int .i64 0, .slice none 0 0, .bool false, .slice none 0 0], false, .cells false⟩
structure GL where
  l : List Int
  v : Int
structure LS where
  i : Int
  n : Nat
  L : Nat
  W : Int
  q : List UInt8
  x : List UInt8
  k : Nat
def zs (L : Nat) : List UInt8 := List.replicate L 0
def slL (g : GL) (s : LS) : List (Nat × Value) := [(1, .slice (some ⟨0, 0, none⟩) g.l.length 1), (7, .pointer (some ⟨1, 0, none⟩)), (8, .int .i64 (s.n : Nat)), (9, .string (bs (zs s.L))), (11, .int .i64 s.i)]
noncomputable def rlL (g : GL) (s : LS) : List (Nat × Row) := [(0, iRo .i64 g.l), (1, cnL g.v s.W s.q.length), (2, bOwn s.q), (3, cp.rdB 4 s.k 0), (4, bOwn s.x), (5, unB 9), (6, pkB 10), (7, stD 8), (8, flD (s.n : Nat)), (9, tbB), (10, tbB)]
noncomputable def wsL (g : GL) : List (Gate LS) := [⟨.exit 0, fun _ => True, fun _ => [], fun _ => [(0, iRo .i64 g.l)], 11⟩]
def InvL (s : LS) : Prop := -1 ≤ s.i ∧ s.i ≤ 20 ∧ (s.n : Int) ≤ 5000 + 2000 * (s.i + 1) ∧ s.L ≤ 8000 ∧ (s.L : Int) ≤ s.W ∧ s.W ≤ 65535 ∧ ((s.q.length + s.L : Nat) : Int) ≤ 8019 + 9 * (s.i + 1) ∧ s.x.length = s.k ∧ s.k ≤ 1000
def PreL (g : GL × LS) : Prop := g.1.l.length ≤ maxLen ∧ (∀ x ∈ g.1.l, I64 x) ∧ g.2.i = -1 ∧ InvL g.2
noncomputable def specL : Sy.Spec := specOf 1 11 99 PreL (fun g => slL g.1 g.2) (fun g => rlL g.1 g.2) (fun g => wsL g.1)
def pLw : List Nat := [0, 1, 0, 1, 1, 1, 1, 1, 1, 1, 1, 1]
noncomputable def mL := mOf [(12, pLw, specL)]
noncomputable def tL : List EntM := [eWiG, eFeW, eData]
noncomputable abbrev EL : Env := envTc Tryz.prog tL
set_option maxHeartbeats 4000000 in
theorem L_round (g : GL) (s : LS) (Inv : LS → Prop) (m : LS → Nat) : mev EL noM 200 12 (0 :: pLw) false (codeOf Tryz.prog 12 (0 :: pLw)) ⟨mkOv (slL g s), 99, []⟩ none ⟨mkR (rlL g s), 11⟩ (roundK 1 11 99 Inv m (fun s : LS => slL g s) (fun s => rlL g s) (wsL g) s) =
  (br (decide (s.1 < Int.ofNat (List.length g.1))) (br (decide (s.1 < (20 : Int))) (br (decide (s.1 ≥ (0 : Int))) (br (decide ((0 : Int) <= s.1 /\ s.1 < (↑(List.length g.1)
  : Int))) ((Eq (α := Option Value) ((iCells IntKind.i64 g.1)[0 + Int.toNat s.1 * 1]?) (some (Value.int IntKind.i64 (cellI (iCells IntKind.i64 g.1) (0 + Int.toNat s.1 *
  1))))) /\ ((((True /\ (True /\ (True /\ True))) /\ (True /\ (True /\ (I64 (cellI (iCells IntKind.i64 g.1) (0 + Int.toNat s.1 * 1)) /\ ((-1000000000000 : Int) <= (1 : Int)
  /\ ((2000 : Int) <= (1000000000000 : Int) /\ (1 : Int) <= (2000 : Int)))))))) /\ ((((True /\ ((13 <= 13 /\ Plain [Value.int IntKind.u8 (0 : Int), Value.int IntKind.u8 (0 :
  Int), Value.int IntKind.u8 (4 : Int), Value.int IntKind.u8 (8 : Int), Value.int IntKind.u8 (0 : Int), Value.int IntKind.u8 (0 : Int), Value.int IntKind.u8 (0 : Int),
  Value.int IntKind.u8 (0 : Int), Value.int IntKind.u8 (1 : Int), Value.int IntKind.u8 (0 : Int), Value.int IntKind.u8 (0 : Int), Value.int IntKind.u8 (IntKind.wrap
  IntKind.u8 (ishr IntKind.i64 (inside (cellI (iCells IntKind.i64 g.1) (0 + Int.toNat s.1 * 1)) (1 : Int) (2000 : Int)) (8 : Int))), Value.int IntKind.u8 (IntKind.wrap
  IntKind.u8 (inside (cellI (iCells IntKind.i64 g.1) (0 + Int.toNat s.1 * 1)) (1 : Int) (2000 : Int)))]) /\ True)) /\ (((True /\ (True /\ (True /\ (True /\ (True /\ (True /\
  (True /\ (True /\ (True /\ (True /\ (True /\ (True /\ (True /\ (True /\ (True /\ (True /\ (True /\ (True /\ (True /\ (True /\ (True /\ (True /\ (True /\ (True /\ (True /\
  (True /\ (True /\ (True /\ True)))))))))))))))))))))))))))) /\ (True /\ (Plain (bCells s.5) /\ ((True /\ (True /\ (True /\ (True /\ (True /\ (True /\ True)))))) /\ ((True
  /\ (True /\ (True /\ (True /\ True)))) /\ ((True /\ (True /\ (True /\ True))) /\ ((True /\ True) /\ (Plain (bCells s.6) /\ ((True /\ (True /\ (True /\ True))) /\ ((True /\
  (True /\ (True /\ True))) /\ ((True /\ (True /\ (True /\ (True /\ (True /\ (True /\ True)))))) /\ True))))))))))) /\ ((Plain (bCells s.5) /\ (Plain (bCells (yP (Row.mk
  [Value.int IntKind.u8 (0 : Int), Value.int IntKind.u8 (0 : Int), Value.int IntKind.u8 (4 : Int), Value.int IntKind.u8 (8 : Int), Value.int IntKind.u8 (0 : Int), Value.int
  IntKind.u8 (0 : Int), Value.int IntKind.u8 (0 : Int), Value.int IntKind.u8 (0 : Int), Value.int IntKind.u8 (1 : Int), Value.int IntKind.u8 (0 : Int), Value.int IntKind.u8
  (0 : Int), Value.int IntKind.u8 (IntKind.wrap IntKind.u8 (ishr IntKind.i64 (inside (cellI (iCells IntKind.i64 g.1) (0 + Int.toNat s.1 * 1)) (1 : Int) (2000 : Int)) (8 :
  Int))), Value.int IntKind.u8 (IntKind.wrap IntKind.u8 (inside (cellI (iCells IntKind.i64 g.1) (0 + Int.toNat s.1 * 1)) (1 : Int) (2000 : Int)))] true (Ob.cells true)))) /\
  True)) /\ (13 = 13 /\ (Row.mk [Value.bool true, Value.int IntKind.i64 (2 : Int), Value.int IntKind.i64 (65535 : Int), Value.int IntKind.i64 (65536 : Int), Value.int
  IntKind.i64 (4096 : Int), Value.int IntKind.i64 (2147483647 : Int), Value.int IntKind.i64 g.2, Value.int IntKind.i64 (16384 : Int), Value.int IntKind.i64 (2147483647 :
  Int), Value.slice (some (Addr.mk 2 0 none)) (List.length s.5) 1, Value.pointer (some (Addr.mk 3 0 none)), Value.pointer (some (Addr.mk 4 0 none)), Value.pointer (some
  (Addr.mk 5 0 none)), Value.int IntKind.i64 s.4, Value.int IntKind.i64 (65535 : Int), Value.slice (some (Addr.mk 6 0 none)) 1 1, Value.slice none 0 0, Value.int IntKind.i64
  (1 : Int), Value.int IntKind.i64 (1 : Int), Value.bool true, Value.bool false, Value.bool false, Value.bool false, Value.bool false, Value.int IntKind.i64 (0 : Int),
  Value.slice none 0 0, Value.bool false, Value.slice none 0 0] false (Ob.cells false) = Row.mk [Value.bool true, Value.int IntKind.i64 (2 : Int), Value.int IntKind.i64
  (65535 : Int), Value.int IntKind.i64 (65536 : Int), Value.int IntKind.i64 (4096 : Int), Value.int IntKind.i64 (2147483647 : Int), Value.int IntKind.i64 g.2, Value.int
  IntKind.i64 (16384 : Int), Value.int IntKind.i64 (2147483647 : Int), Value.slice (some (Addr.mk 2 0 none)) (List.length s.5) 1, Value.pointer (some (Addr.mk 3 0 none)),
  Value.pointer (some (Addr.mk 4 0 none)), Value.pointer (some (Addr.mk 5 0 none)), Value.int IntKind.i64 s.4, Value.int IntKind.i64 (65535 : Int), Value.slice (some
  (Addr.mk 6 0 none)) 1 1, Value.slice none 0 0, Value.int IntKind.i64 (1 : Int), Value.int IntKind.i64 (1 : Int), Value.bool true, Value.bool false, Value.bool false,
  Value.bool false, Value.bool false, Value.int IntKind.i64 (0 : Int), Value.slice none 0 0, Value.bool false, Value.slice none 0 0] false (Ob.cells false) /\ (IsW (Row.mk
  [Value.int IntKind.u8 (0 : Int), Value.int IntKind.u8 (0 : Int), Value.int IntKind.u8 (4 : Int), Value.int IntKind.u8 (8 : Int), Value.int IntKind.u8 (0 : Int), Value.int
  IntKind.u8 (0 : Int), Value.int IntKind.u8 (0 : Int), Value.int IntKind.u8 (0 : Int), Value.int IntKind.u8 (1 : Int), Value.int IntKind.u8 (0 : Int), Value.int IntKind.u8
  (0 : Int), Value.int IntKind.u8 (IntKind.wrap IntKind.u8 (ishr IntKind.i64 (inside (cellI (iCells IntKind.i64 g.1) (0 + Int.toNat s.1 * 1)) (1 : Int) (2000 : Int)) (8 :
  Int))), Value.int IntKind.u8 (IntKind.wrap IntKind.u8 (inside (cellI (iCells IntKind.i64 g.1) (0 + Int.toNat s.1 * 1)) (1 : Int) (2000 : Int)))] true (Ob.cells true)) /\
  (IsQ (Row.mk (bCells s.5) false (Ob.cells true)) (List.length s.5) /\ ((0 = 0 /\ ((16384 : Int) = (16384 : Int) /\ (ByteArray.mk #[] = ByteArray.mk #[] /\ ((0 : Int) = (0
  : Int) /\ ((0 : Int) = (0 : Int) /\ (0 : Int) = (0 : Int)))))) /\ (Row.mk [Value.pointer (some (Addr.mk 8 0 none)), Value.int IntKind.i64 (4096 : Int), Value.int
  IntKind.i64 (65536 : Int), Value.bool false] false (Ob.cells false) = Row.mk [Value.pointer (some (Addr.mk 8 0 none)), Value.int IntKind.i64 (4096 : Int), Value.int
  IntKind.i64 (65536 : Int), Value.bool false] false (Ob.cells false) /\ (Row.mk [Value.pointer (some (Addr.mk 9 0 none)), Value.bool false, Value.int IntKind.i64 (0 : Int)]
  false (Ob.cells false) = Row.mk [Value.pointer (some (Addr.mk 9 0 none)), Value.bool false, Value.int IntKind.i64 (0 : Int)] false (Ob.cells false) /\ (Row.mk
  [Value.pointer (some (Addr.mk 10 0 none))] false (Ob.cells false) = Row.mk [Value.pointer (some (Addr.mk 10 0 none))] false (Ob.cells false) /\ (IsL (Row.mk (bCells s.6)
  false (Ob.cells true)) s.7 /\ (Row.mk [Value.slice none 0 0, Value.int IntKind.i64 (0 : Int), Value.int IntKind.i64 (4096 : Int)] false (Ob.cells false) = Row.mk
  [Value.slice none 0 0, Value.int IntKind.i64 (0 : Int), Value.int IntKind.i64 (4096 : Int)] false (Ob.cells false) /\ (Row.mk [Value.slice none 0 0, Value.int IntKind.i64
  (0 : Int), Value.int IntKind.i64 (4096 : Int)] false (Ob.cells false) = Row.mk [Value.slice none 0 0, Value.int IntKind.i64 (0 : Int), Value.int IntKind.i64 (4096 : Int)]
  false (Ob.cells false) /\ (((1 : Int) = (1 : Int) /\ ((3 : Int) = (3 : Int) /\ ((65535 : Int) = (65535 : Int) /\ (true = true /\ true = true)))) /\ ((0 : Int) <= (↑s.2 :
  Int) /\ (↑s.2 : Int) <= (100000 : Int)))))))))))))))))) /\ ((((True /\ (True /\ (True /\ (True /\ True)))) /\ (((True /\ (True /\ (True /\ (True /\ (True /\ (True /\ (True
  /\ (True /\ (True /\ (True /\ (True /\ (True /\ (True /\ (True /\ (True /\ (True /\ (True /\ (True /\ (True /\ (True /\ (True /\ (True /\ (True /\ (True /\ (True /\ (True
  /\ (True /\ (True /\ True)))))))))))))))))))))))))))) /\ (Plain (bCells s.5) /\ ((True /\ (True /\ (True /\ (True /\ (True /\ (True /\ True)))))) /\ ((True /\ (True /\
  (True /\ (True /\ True)))) /\ ((True /\ (True /\ (True /\ True))) /\ ((True /\ True) /\ (Plain (bCells (yP (Row.mk [Value.int IntKind.u8 (0 : Int), Value.int IntKind.u8 (0
  : Int), Value.int IntKind.u8 (4 : Int), Value.int IntKind.u8 (8 : Int), Value.int IntKind.u8 (0 : Int), Value.int IntKind.u8 (0 : Int), Value.int IntKind.u8 (0 : Int),
  Value.int IntKind.u8 (0 : Int), Value.int IntKind.u8 (1 : Int), Value.int IntKind.u8 (0 : Int), Value.int IntKind.u8 (0 : Int), Value.int IntKind.u8 (IntKind.wrap
  IntKind.u8 (ishr IntKind.i64 (inside (cellI (iCells IntKind.i64 g.1) (0 + Int.toNat s.1 * 1)) (1 : Int) (2000 : Int)) (8 : Int))), Value.int IntKind.u8 (IntKind.wrap
  IntKind.u8 (inside (cellI (iCells IntKind.i64 g.1) (0 + Int.toNat s.1 * 1)) (1 : Int) (2000 : Int)))] true (Ob.cells true)))) /\ ((True /\ (True /\ (True /\ True))) /\
  ((True /\ (True /\ (True /\ True))) /\ ((True /\ (True /\ (True /\ (True /\ (True /\ (True /\ True)))))) /\ True)))))))))) /\ ((Plain (bCells (yP (Row.mk [Value.int
  IntKind.u8 (0 : Int), Value.int IntKind.u8 (0 : Int), Value.int IntKind.u8 (4 : Int), Value.int IntKind.u8 (8 : Int), Value.int IntKind.u8 (0 : Int), Value.int IntKind.u8
  (0 : Int), Value.int IntKind.u8 (0 : Int), Value.int IntKind.u8 (0 : Int), Value.int IntKind.u8 (1 : Int), Value.int IntKind.u8 (0 : Int), Value.int IntKind.u8 (0 : Int),
  Value.int IntKind.u8 (IntKind.wrap IntKind.u8 (ishr IntKind.i64 (inside (cellI (iCells IntKind.i64 g.1) (0 + Int.toNat s.1 * 1)) (1 : Int) (2000 : Int)) (8 : Int))),
  Value.int IntKind.u8 (IntKind.wrap IntKind.u8 (inside (cellI (iCells IntKind.i64 g.1) (0 + Int.toNat s.1 * 1)) (1 : Int) (2000 : Int)))] true (Ob.cells true)))) /\ (Plain
  (bCells (qR (Row.mk (bCells s.5) false (Ob.cells true)) ((↑s.2 : Int) + (↑(kR (Row.mk [Value.int IntKind.u8 (0 : Int), Value.int IntKind.u8 (0 : Int), Value.int IntKind.u8
  (4 : Int), Value.int IntKind.u8 (8 : Int), Value.int IntKind.u8 (0 : Int), Value.int IntKind.u8 (0 : Int), Value.int IntKind.u8 (0 : Int), Value.int IntKind.u8 (0 : Int),
  Value.int IntKind.u8 (1 : Int), Value.int IntKind.u8 (0 : Int), Value.int IntKind.u8 (0 : Int), Value.int IntKind.u8 (IntKind.wrap IntKind.u8 (ishr IntKind.i64 (inside
  (cellI (iCells IntKind.i64 g.1) (0 + Int.toNat s.1 * 1)) (1 : Int) (2000 : Int)) (8 : Int))), Value.int IntKind.u8 (IntKind.wrap IntKind.u8 (inside (cellI (iCells
  IntKind.i64 g.1) (0 + Int.toNat s.1 * 1)) (1 : Int) (2000 : Int)))] true (Ob.cells true))) : Int)) (bs (zs s.3)))) /\ True)) /\ ((1 : Int) = (1 : Int) /\ (false = false /\
  (Row.mk [Value.bool true, Value.int IntKind.i64 (2 : Int), Value.int IntKind.i64 (65535 : Int), Value.int IntKind.i64 (65536 : Int), Value.int IntKind.i64 (4096 : Int),
  Value.int IntKind.i64 (2147483647 : Int), Value.int IntKind.i64 g.2, Value.int IntKind.i64 (16384 : Int), Value.int IntKind.i64 (2147483647 : Int), Value.slice (some
  (Addr.mk 1 0 none)) (List.length s.5) 1, Value.pointer (some (Addr.mk 2 0 none)), Value.pointer (some (Addr.mk 3 0 none)), Value.pointer (some (Addr.mk 4 0 none)),
  Value.int IntKind.i64 s.4, Value.int IntKind.i64 (65535 : Int), Value.slice (some (Addr.mk 5 0 none)) 1 1, Value.slice none 0 0, Value.int IntKind.i64 (1 : Int), Value.int
  IntKind.i64 (1 : Int), Value.bool true, Value.bool false, Value.bool false, Value.bool false, Value.bool false, Value.int IntKind.i64 (0 : Int), Value.slice none 0 0,
  Value.bool false, Value.slice none 0 0] false (Ob.cells false) = Row.mk [Value.bool true, Value.int IntKind.i64 (2 : Int), Value.int IntKind.i64 (65535 : Int), Value.int
  IntKind.i64 (65536 : Int), Value.int IntKind.i64 (4096 : Int), Value.int IntKind.i64 (2147483647 : Int), Value.int IntKind.i64 g.2, Value.int IntKind.i64 (16384 : Int),
  Value.int IntKind.i64 (2147483647 : Int), Value.slice (some (Addr.mk 1 0 none)) (List.length s.5) 1, Value.pointer (some (Addr.mk 2 0 none)), Value.pointer (some (Addr.mk
  3 0 none)), Value.pointer (some (Addr.mk 4 0 none)), Value.int IntKind.i64 s.4, Value.int IntKind.i64 (65535 : Int), Value.slice (some (Addr.mk 5 0 none)) 1 1, Value.slice
  none 0 0, Value.int IntKind.i64 (1 : Int), Value.int IntKind.i64 (1 : Int), Value.bool true, Value.bool false, Value.bool false, Value.bool false, Value.bool false,
  Value.int IntKind.i64 (0 : Int), Value.slice none 0 0, Value.bool false, Value.slice none 0 0] false (Ob.cells false) /\ (IsQ (Row.mk (bCells s.5) false (Ob.cells true))
  (List.length s.5) /\ ((0 = 0 /\ ((16384 : Int) = (16384 : Int) /\ (ByteArray.mk #[] = ByteArray.mk #[] /\ ((0 : Int) = (0 : Int) /\ ((0 : Int) = (0 : Int) /\ (0 : Int) =
  (0 : Int)))))) /\ (Row.mk [Value.pointer (some (Addr.mk 7 0 none)), Value.int IntKind.i64 (4096 : Int), Value.int IntKind.i64 (65536 : Int), Value.bool false] false
  (Ob.cells false) = Row.mk [Value.pointer (some (Addr.mk 7 0 none)), Value.int IntKind.i64 (4096 : Int), Value.int IntKind.i64 (65536 : Int), Value.bool false] false
  (Ob.cells false) /\ (Row.mk [Value.pointer (some (Addr.mk 8 0 none)), Value.bool false, Value.int IntKind.i64 (0 : Int)] false (Ob.cells false) = Row.mk [Value.pointer
  (some (Addr.mk 8 0 none)), Value.bool false, Value.int IntKind.i64 (0 : Int)] false (Ob.cells false) /\ (Row.mk [Value.pointer (some (Addr.mk 9 0 none))] false (Ob.cells
  false) = Row.mk [Value.pointer (some (Addr.mk 9 0 none))] false (Ob.cells false) /\ (OkL (Row.mk (bCells (yP (Row.mk [Value.int IntKind.u8 (0 : Int), Value.int IntKind.u8
  (0 : Int), Value.int IntKind.u8 (4 : Int), Value.int IntKind.u8 (8 : Int), Value.int IntKind.u8 (0 : Int), Value.int IntKind.u8 (0 : Int), Value.int IntKind.u8 (0 : Int),
  Value.int IntKind.u8 (0 : Int), Value.int IntKind.u8 (1 : Int), Value.int IntKind.u8 (0 : Int), Value.int IntKind.u8 (0 : Int), Value.int IntKind.u8 (IntKind.wrap
  IntKind.u8 (ishr IntKind.i64 (inside (cellI (iCells IntKind.i64 g.1) (0 + Int.toNat s.1 * 1)) (1 : Int) (2000 : Int)) (8 : Int))), Value.int IntKind.u8 (IntKind.wrap
  IntKind.u8 (inside (cellI (iCells IntKind.i64 g.1) (0 + Int.toNat s.1 * 1)) (1 : Int) (2000 : Int)))] true (Ob.cells true)))) false (Ob.cells true)) /\ (Row.mk
  [Value.slice none 0 0, Value.int IntKind.i64 (0 : Int), Value.int IntKind.i64 (4096 : Int)] false (Ob.cells false) = Row.mk [Value.slice none 0 0, Value.int IntKind.i64 (0
  : Int), Value.int IntKind.i64 (4096 : Int)] false (Ob.cells false) /\ (Row.mk [Value.slice none 0 0, Value.int IntKind.i64 (0 : Int), Value.int IntKind.i64 (4096 : Int)]
  false (Ob.cells false) = Row.mk [Value.slice none 0 0, Value.int IntKind.i64 (0 : Int), Value.int IntKind.i64 (4096 : Int)] false (Ob.cells false) /\ (((1 : Int) = (1 :
  Int) /\ ((3 : Int) = (3 : Int) /\ ((65535 : Int) = (65535 : Int) /\ (true = true /\ true = true)))) /\ OkT (bs (zs s.3)) s.4 ((↑s.2 : Int) + (↑(kR (Row.mk [Value.int
  IntKind.u8 (0 : Int), Value.int IntKind.u8 (0 : Int), Value.int IntKind.u8 (4 : Int), Value.int IntKind.u8 (8 : Int), Value.int IntKind.u8 (0 : Int), Value.int IntKind.u8
  (0 : Int), Value.int IntKind.u8 (0 : Int), Value.int IntKind.u8 (0 : Int), Value.int IntKind.u8 (1 : Int), Value.int IntKind.u8 (0 : Int), Value.int IntKind.u8 (0 : Int),
  Value.int IntKind.u8 (IntKind.wrap IntKind.u8 (ishr IntKind.i64 (inside (cellI (iCells IntKind.i64 g.1) (0 + Int.toNat s.1 * 1)) (1 : Int) (2000 : Int)) (8 : Int))),
  Value.int IntKind.u8 (IntKind.wrap IntKind.u8 (inside (cellI (iCells IntKind.i64 g.1) (0 + Int.toNat s.1 * 1)) (1 : Int) (2000 : Int)))] true (Ob.cells true))) :
  Int)))))))))))))))))) /\ (br ((↑(mR ((↑s.2 : Int) + (↑(kR (Row.mk [Value.int IntKind.u8 (0 : Int), Value.int IntKind.u8 (0 : Int), Value.int IntKind.u8 (4 : Int),
  Value.int IntKind.u8 (8 : Int), Value.int IntKind.u8 (0 : Int), Value.int IntKind.u8 (0 : Int), Value.int IntKind.u8 (0 : Int), Value.int IntKind.u8 (0 : Int), Value.int
  IntKind.u8 (1 : Int), Value.int IntKind.u8 (0 : Int), Value.int IntKind.u8 (0 : Int), Value.int IntKind.u8 (IntKind.wrap IntKind.u8 (ishr IntKind.i64 (inside (cellI
  (iCells IntKind.i64 g.1) (0 + Int.toNat s.1 * 1)) (1 : Int) (2000 : Int)) (8 : Int))), Value.int IntKind.u8 (IntKind.wrap IntKind.u8 (inside (cellI (iCells IntKind.i64
  g.1) (0 + Int.toNat s.1 * 1)) (1 : Int) (2000 : Int)))] true (Ob.cells true))) : Int)) (bs (zs s.3))) : Int) != if Int.ofNat (List.length (Array.toList (ByteArray.data (bs
  (zs s.3))))) < IntKind.wrap IntKind.i64 ((↑s.2 : Int) + inside (cellI (iCells IntKind.i64 g.1) (0 + Int.toNat s.1 * 1)) (1 : Int) (2000 : Int)) then Int.ofNat (List.length
  (Array.toList (ByteArray.data (bs (zs s.3))))) else IntKind.wrap IntKind.i64 ((↑s.2 : Int) + inside (cellI (iCells IntKind.i64 g.1) (0 + Int.toNat s.1 * 1)) (1 : Int)
  (2000 : Int))) False (br (decide ((0 : Int) <= (↑(mR ((↑s.2 : Int) + (↑(kR (Row.mk [Value.int IntKind.u8 (0 : Int), Value.int IntKind.u8 (0 : Int), Value.int IntKind.u8 (4
  : Int), Value.int IntKind.u8 (8 : Int), Value.int IntKind.u8 (0 : Int), Value.int IntKind.u8 (0 : Int), Value.int IntKind.u8 (0 : Int), Value.int IntKind.u8 (0 : Int),
  Value.int IntKind.u8 (1 : Int), Value.int IntKind.u8 (0 : Int), Value.int IntKind.u8 (0 : Int), Value.int IntKind.u8 (IntKind.wrap IntKind.u8 (ishr IntKind.i64 (inside
  (cellI (iCells IntKind.i64 g.1) (0 + Int.toNat s.1 * 1)) (1 : Int) (2000 : Int)) (8 : Int))), Value.int IntKind.u8 (IntKind.wrap IntKind.u8 (inside (cellI (iCells
  IntKind.i64 g.1) (0 + Int.toNat s.1 * 1)) (1 : Int) (2000 : Int)))] true (Ob.cells true))) : Int)) (bs (zs s.3))) : Int) /\ (↑(mR ((↑s.2 : Int) + (↑(kR (Row.mk [Value.int
  IntKind.u8 (0 : Int), Value.int IntKind.u8 (0 : Int), Value.int IntKind.u8 (4 : Int), Value.int IntKind.u8 (8 : Int), Value.int IntKind.u8 (0 : Int), Value.int IntKind.u8
  (0 : Int), Value.int IntKind.u8 (0 : Int), Value.int IntKind.u8 (0 : Int), Value.int IntKind.u8 (1 : Int), Value.int IntKind.u8 (0 : Int), Value.int IntKind.u8 (0 : Int),
  Value.int IntKind.u8 (IntKind.wrap IntKind.u8 (ishr IntKind.i64 (inside (cellI (iCells IntKind.i64 g.1) (0 + Int.toNat s.1 * 1)) (1 : Int) (2000 : Int)) (8 : Int))),
  Value.int IntKind.u8 (IntKind.wrap IntKind.u8 (inside (cellI (iCells IntKind.i64 g.1) (0 + Int.toNat s.1 * 1)) (1 : Int) (2000 : Int)))] true (Ob.cells true))) : Int)) (bs
  (zs s.3))) : Int) <= (↑(List.length (Array.toList (ByteArray.data (bs (zs s.3))))) : Int) /\ (↑(List.length (Array.toList (ByteArray.data (bs (zs s.3))))) : Int) <=
  (↑(List.length (Array.toList (ByteArray.data (bs (zs s.3))))) : Int))) (br (decide ((0 : Int) <= (↑(mR ((↑s.2 : Int) + (↑(kR (Row.mk [Value.int IntKind.u8 (0 : Int),
  Value.int IntKind.u8 (0 : Int), Value.int IntKind.u8 (4 : Int), Value.int IntKind.u8 (8 : Int), Value.int IntKind.u8 (0 : Int), Value.int IntKind.u8 (0 : Int), Value.int
  IntKind.u8 (0 : Int), Value.int IntKind.u8 (0 : Int), Value.int IntKind.u8 (1 : Int), Value.int IntKind.u8 (0 : Int), Value.int IntKind.u8 (0 : Int), Value.int IntKind.u8
  (IntKind.wrap IntKind.u8 (ishr IntKind.i64 (inside (cellI (iCells IntKind.i64 g.1) (0 + Int.toNat s.1 * 1)) (1 : Int) (2000 : Int)) (8 : Int))), Value.int IntKind.u8
  (IntKind.wrap IntKind.u8 (inside (cellI (iCells IntKind.i64 g.1) (0 + Int.toNat s.1 * 1)) (1 : Int) (2000 : Int)))] true (Ob.cells true))) : Int)) (bs (zs s.3))) : Int) /\
  (↑(mR ((↑s.2 : Int) + (↑(kR (Row.mk [Value.int IntKind.u8 (0 : Int), Value.int IntKind.u8 (0 : Int), Value.int IntKind.u8 (4 : Int), Value.int IntKind.u8 (8 : Int),
  Value.int IntKind.u8 (0 : Int), Value.int IntKind.u8 (0 : Int), Value.int IntKind.u8 (0 : Int), Value.int IntKind.u8 (0 : Int), Value.int IntKind.u8 (1 : Int), Value.int
  IntKind.u8 (0 : Int), Value.int IntKind.u8 (0 : Int), Value.int IntKind.u8 (IntKind.wrap IntKind.u8 (ishr IntKind.i64 (inside (cellI (iCells IntKind.i64 g.1) (0 +
  Int.toNat s.1 * 1)) (1 : Int) (2000 : Int)) (8 : Int))), Value.int IntKind.u8 (IntKind.wrap IntKind.u8 (inside (cellI (iCells IntKind.i64 g.1) (0 + Int.toNat s.1 * 1)) (1
  : Int) (2000 : Int)))] true (Ob.cells true))) : Int)) (bs (zs s.3))) : Int) <= (↑(List.length (Array.toList (ByteArray.data (bs (zs s.3))))) : Int) /\ (↑(List.length
  (Array.toList (ByteArray.data (bs (zs s.3))))) : Int) <= (↑(List.length (Array.toList (ByteArray.data (bs (zs s.3))))) : Int))) (br (veq 20 (Value.string (sub (bs (zs
  s.3)) (Int.toNat (↑(mR ((↑s.2 : Int) + (↑(kR (Row.mk [Value.int IntKind.u8 (0 : Int), Value.int IntKind.u8 (0 : Int), Value.int IntKind.u8 (4 : Int), Value.int IntKind.u8
  (8 : Int), Value.int IntKind.u8 (0 : Int), Value.int IntKind.u8 (0 : Int), Value.int IntKind.u8 (0 : Int), Value.int IntKind.u8 (0 : Int), Value.int IntKind.u8 (1 : Int),
  Value.int IntKind.u8 (0 : Int), Value.int IntKind.u8 (0 : Int), Value.int IntKind.u8 (IntKind.wrap IntKind.u8 (ishr IntKind.i64 (inside (cellI (iCells IntKind.i64 g.1) (0
  + Int.toNat s.1 * 1)) (1 : Int) (2000 : Int)) (8 : Int))), Value.int IntKind.u8 (IntKind.wrap IntKind.u8 (inside (cellI (iCells IntKind.i64 g.1) (0 + Int.toNat s.1 * 1))
  (1 : Int) (2000 : Int)))] true (Ob.cells true))) : Int)) (bs (zs s.3))) : Int)) (Int.toNat (↑(List.length (Array.toList (ByteArray.data (bs (zs s.3))))) : Int))))
  (Value.string (sub (bs (zs s.3)) (Int.toNat (↑(mR ((↑s.2 : Int) + (↑(kR (Row.mk [Value.int IntKind.u8 (0 : Int), Value.int IntKind.u8 (0 : Int), Value.int IntKind.u8 (4 :
  Int), Value.int IntKind.u8 (8 : Int), Value.int IntKind.u8 (0 : Int), Value.int IntKind.u8 (0 : Int), Value.int IntKind.u8 (0 : Int), Value.int IntKind.u8 (0 : Int),
  Value.int IntKind.u8 (1 : Int), Value.int IntKind.u8 (0 : Int), Value.int IntKind.u8 (0 : Int), Value.int IntKind.u8 (IntKind.wrap IntKind.u8 (ishr IntKind.i64 (inside
  (cellI (iCells IntKind.i64 g.1) (0 + Int.toNat s.1 * 1)) (1 : Int) (2000 : Int)) (8 : Int))), Value.int IntKind.u8 (IntKind.wrap IntKind.u8 (inside (cellI (iCells
  IntKind.i64 g.1) (0 + Int.toNat s.1 * 1)) (1 : Int) (2000 : Int)))] true (Ob.cells true))) : Int)) (bs (zs s.3))) : Int)) (Int.toNat (↑(List.length (Array.toList
  (ByteArray.data (bs (zs s.3))))) : Int))))) (∃ j : LS, ((Inv j) /\ ((m j < m s) /\ ((0 = 0) /\ ((List.length g.1 = List.length g.1) /\ ((0 = 0) /\ (((↑j.2 : Int) =
  IntKind.wrap IntKind.i64 (IntKind.wrap IntKind.i64 ((↑s.2 : Int) + inside (cellI (iCells IntKind.i64 g.1) (0 + Int.toNat s.1 * 1)) (1 : Int) (2000 : Int)) - (↑(mR ((↑s.2 :
  Int) + (↑(kR (Row.mk [Value.int IntKind.u8 (0 : Int), Value.int IntKind.u8 (0 : Int), Value.int IntKind.u8 (4 : Int), Value.int IntKind.u8 (8 : Int), Value.int IntKind.u8
  (0 : Int), Value.int IntKind.u8 (0 : Int), Value.int IntKind.u8 (0 : Int), Value.int IntKind.u8 (0 : Int), Value.int IntKind.u8 (1 : Int), Value.int IntKind.u8 (0 : Int),
  Value.int IntKind.u8 (0 : Int), Value.int IntKind.u8 (IntKind.wrap IntKind.u8 (ishr IntKind.i64 (inside (cellI (iCells IntKind.i64 g.1) (0 + Int.toNat s.1 * 1)) (1 : Int)
  (2000 : Int)) (8 : Int))), Value.int IntKind.u8 (IntKind.wrap IntKind.u8 (inside (cellI (iCells IntKind.i64 g.1) (0 + Int.toNat s.1 * 1)) (1 : Int) (2000 : Int)))] true
  (Ob.cells true))) : Int)) (bs (zs s.3))) : Int))) /\ ((bs (zs j.3) = sub (bs (zs s.3)) (Int.toNat (↑(mR ((↑s.2 : Int) + (↑(kR (Row.mk [Value.int IntKind.u8 (0 : Int),
  Value.int IntKind.u8 (0 : Int), Value.int IntKind.u8 (4 : Int), Value.int IntKind.u8 (8 : Int), Value.int IntKind.u8 (0 : Int), Value.int IntKind.u8 (0 : Int), Value.int
  IntKind.u8 (0 : Int), Value.int IntKind.u8 (0 : Int), Value.int IntKind.u8 (1 : Int), Value.int IntKind.u8 (0 : Int), Value.int IntKind.u8 (0 : Int), Value.int IntKind.u8
  (IntKind.wrap IntKind.u8 (ishr IntKind.i64 (inside (cellI (iCells IntKind.i64 g.1) (0 + Int.toNat s.1 * 1)) (1 : Int) (2000 : Int)) (8 : Int))), Value.int IntKind.u8
  (IntKind.wrap IntKind.u8 (inside (cellI (iCells IntKind.i64 g.1) (0 + Int.toNat s.1 * 1)) (1 : Int) (2000 : Int)))] true (Ob.cells true))) : Int)) (bs (zs s.3))) : Int))
  (Int.toNat (↑(List.length (Array.toList (ByteArray.data (bs (zs s.3))))) : Int))) /\ ((j.1 = IntKind.wrap IntKind.i64 (s.1 + (1 : Int))) /\ ((Eq (α := List Value) (iCells
  IntKind.i64 g.1) (iCells IntKind.i64 g.1)) /\ ((Plain (iCells IntKind.i64 g.1)) /\ ((true = true) /\ (((2 : Int) = (2 : Int)) /\ (((65535 : Int) = (65535 : Int)) /\
  (((65536 : Int) = (65536 : Int)) /\ (((4096 : Int) = (4096 : Int)) /\ (((2147483647 : Int) = (2147483647 : Int)) /\ ((g.2 = g.2) /\ (((16384 : Int) = (16384 : Int)) /\
  (((2147483647 : Int) = (2147483647 : Int)) /\ ((0 = 0) /\ ((List.length j.5 = List.length (qR (Row.mk (bCells s.5) false (Ob.cells true)) ((↑s.2 : Int) + (↑(kR (Row.mk
  [Value.int IntKind.u8 (0 : Int), Value.int IntKind.u8 (0 : Int), Value.int IntKind.u8 (4 : Int), Value.int IntKind.u8 (8 : Int), Value.int IntKind.u8 (0 : Int), Value.int
  IntKind.u8 (0 : Int), Value.int IntKind.u8 (0 : Int), Value.int IntKind.u8 (0 : Int), Value.int IntKind.u8 (1 : Int), Value.int IntKind.u8 (0 : Int), Value.int IntKind.u8
  (0 : Int), Value.int IntKind.u8 (IntKind.wrap IntKind.u8 (ishr IntKind.i64 (inside (cellI (iCells IntKind.i64 g.1) (0 + Int.toNat s.1 * 1)) (1 : Int) (2000 : Int)) (8 :
  Int))), Value.int IntKind.u8 (IntKind.wrap IntKind.u8 (inside (cellI (iCells IntKind.i64 g.1) (0 + Int.toNat s.1 * 1)) (1 : Int) (2000 : Int)))] true (Ob.cells true))) :
  Int)) (bs (zs s.3)))) /\ ((0 = 0) /\ ((0 = 0) /\ ((0 = 0) /\ ((j.4 = s.4 - (↑(mR ((↑s.2 : Int) + (↑(kR (Row.mk [Value.int IntKind.u8 (0 : Int), Value.int IntKind.u8 (0 :
  Int), Value.int IntKind.u8 (4 : Int), Value.int IntKind.u8 (8 : Int), Value.int IntKind.u8 (0 : Int), Value.int IntKind.u8 (0 : Int), Value.int IntKind.u8 (0 : Int),
  Value.int IntKind.u8 (0 : Int), Value.int IntKind.u8 (1 : Int), Value.int IntKind.u8 (0 : Int), Value.int IntKind.u8 (0 : Int), Value.int IntKind.u8 (IntKind.wrap
  IntKind.u8 (ishr IntKind.i64 (inside (cellI (iCells IntKind.i64 g.1) (0 + Int.toNat s.1 * 1)) (1 : Int) (2000 : Int)) (8 : Int))), Value.int IntKind.u8 (IntKind.wrap
  IntKind.u8 (inside (cellI (iCells IntKind.i64 g.1) (0 + Int.toNat s.1 * 1)) (1 : Int) (2000 : Int)))] true (Ob.cells true))) : Int)) (bs (zs s.3))) : Int)) /\ (((65535 :
  Int) = (65535 : Int)) /\ ((0 = 0) /\ ((1 = 1) /\ (((1 : Int) = (1 : Int)) /\ (((1 : Int) = (1 : Int)) /\ ((true = true) /\ ((false = false) /\ ((false = false) /\ ((false
  = false) /\ ((false = false) /\ (((0 : Int) = (0 : Int)) /\ ((false = false) /\ ((Eq (α := List Value) (bCells j.5) (bCells (qR (Row.mk (bCells s.5) false (Ob.cells true))
  ((↑s.2 : Int) + (↑(kR (Row.mk [Value.int IntKind.u8 (0 : Int), Value.int IntKind.u8 (0 : Int), Value.int IntKind.u8 (4 : Int), Value.int IntKind.u8 (8 : Int), Value.int
  IntKind.u8 (0 : Int), Value.int IntKind.u8 (0 : Int), Value.int IntKind.u8 (0 : Int), Value.int IntKind.u8 (0 : Int), Value.int IntKind.u8 (1 : Int), Value.int IntKind.u8
  (0 : Int), Value.int IntKind.u8 (0 : Int), Value.int IntKind.u8 (IntKind.wrap IntKind.u8 (ishr IntKind.i64 (inside (cellI (iCells IntKind.i64 g.1) (0 + Int.toNat s.1 * 1))
  (1 : Int) (2000 : Int)) (8 : Int))), Value.int IntKind.u8 (IntKind.wrap IntKind.u8 (inside (cellI (iCells IntKind.i64 g.1) (0 + Int.toNat s.1 * 1)) (1 : Int) (2000 :
  Int)))] true (Ob.cells true))) : Int)) (bs (zs s.3))))) /\ ((Plain (bCells j.5)) /\ ((j.7 = 13) /\ ((0 = 0) /\ (((16384 : Int) = (16384 : Int)) /\ ((ByteArray.mk #[] =
  ByteArray.mk #[]) /\ (((0 : Int) = (0 : Int)) /\ (((0 : Int) = (0 : Int)) /\ (((0 : Int) = (0 : Int)) /\ ((Eq (α := List Value) (bCells j.6) (bCells (yP (Row.mk [Value.int
  IntKind.u8 (0 : Int), Value.int IntKind.u8 (0 : Int), Value.int IntKind.u8 (4 : Int), Value.int IntKind.u8 (8 : Int), Value.int IntKind.u8 (0 : Int), Value.int IntKind.u8
  (0 : Int), Value.int IntKind.u8 (0 : Int), Value.int IntKind.u8 (0 : Int), Value.int IntKind.u8 (1 : Int), Value.int IntKind.u8 (0 : Int), Value.int IntKind.u8 (0 : Int),
  Value.int IntKind.u8 (IntKind.wrap IntKind.u8 (ishr IntKind.i64 (inside (cellI (iCells IntKind.i64 g.1) (0 + Int.toNat s.1 * 1)) (1 : Int) (2000 : Int)) (8 : Int))),
  Value.int IntKind.u8 (IntKind.wrap IntKind.u8 (inside (cellI (iCells IntKind.i64 g.1) (0 + Int.toNat s.1 * 1)) (1 : Int) (2000 : Int)))] true (Ob.cells true))))) /\
  ((Plain (bCells j.6)) /\ ((0 = 0) /\ (((4096 : Int) = (4096 : Int)) /\ (((65536 : Int) = (65536 : Int)) /\ ((false = false) /\ ((0 = 0) /\ ((false = false) /\ (((0 : Int)
  = (0 : Int)) /\ ((0 = 0) /\ (((1 : Int) = (1 : Int)) /\ (((3 : Int) = (3 : Int)) /\ (((↑j.2 : Int) = (↑s.2 : Int) + (↑(kR (Row.mk [Value.int IntKind.u8 (0 : Int),
  Value.int IntKind.u8 (0 : Int), Value.int IntKind.u8 (4 : Int), Value.int IntKind.u8 (8 : Int), Value.int IntKind.u8 (0 : Int), Value.int IntKind.u8 (0 : Int), Value.int
  IntKind.u8 (0 : Int), Value.int IntKind.u8 (0 : Int), Value.int IntKind.u8 (1 : Int), Value.int IntKind.u8 (0 : Int), Value.int IntKind.u8 (0 : Int), Value.int IntKind.u8
  (IntKind.wrap IntKind.u8 (ishr IntKind.i64 (inside (cellI (iCells IntKind.i64 g.1) (0 + Int.toNat s.1 * 1)) (1 : Int) (2000 : Int)) (8 : Int))), Value.int IntKind.u8
  (IntKind.wrap IntKind.u8 (inside (cellI (iCells IntKind.i64 g.1) (0 + Int.toNat s.1 * 1)) (1 : Int) (2000 : Int)))] true (Ob.cells true))) : Int) - (↑(mR ((↑s.2 : Int) +
  (↑(kR (Row.mk [Value.int IntKind.u8 (0 : Int), Value.int IntKind.u8 (0 : Int), Value.int IntKind.u8 (4 : Int), Value.int IntKind.u8 (8 : Int), Value.int IntKind.u8 (0 :
  Int), Value.int IntKind.u8 (0 : Int), Value.int IntKind.u8 (0 : Int), Value.int IntKind.u8 (0 : Int), Value.int IntKind.u8 (1 : Int), Value.int IntKind.u8 (0 : Int),
  Value.int IntKind.u8 (0 : Int), Value.int IntKind.u8 (IntKind.wrap IntKind.u8 (ishr IntKind.i64 (inside (cellI (iCells IntKind.i64 g.1) (0 + Int.toNat s.1 * 1)) (1 : Int)
  (2000 : Int)) (8 : Int))), Value.int IntKind.u8 (IntKind.wrap IntKind.u8 (inside (cellI (iCells IntKind.i64 g.1) (0 + Int.toNat s.1 * 1)) (1 : Int) (2000 : Int)))] true
  (Ob.cells true))) : Int)) (bs (zs s.3))) : Int)) /\ (((65535 : Int) = (65535 : Int)) /\ ((true = true) /\ ((true = true) /\ (((0 : Int) = (0 : Int)) /\ (((4096 : Int) =
  (4096 : Int)) /\ (((0 : Int) = (0 : Int)) /\ (((4096 : Int) = (4096 : Int)) /\ True))))))))))))))))))))))))))))))))))))))))))))))))))))))))))))))))))) False) False)
  False)))))) False) ((((True /\ (True /\ (True /\ (True /\ True)))) /\ (((True /\ (True /\ (True /\ (True /\ (True /\ (True /\ (True /\ (True /\ (True /\ (True /\ (True /\
  (True /\ (True /\ (True /\ (True /\ (True /\ (True /\ (True /\ (True /\ (True /\ (True /\ (True /\ (True /\ (True /\ (True /\ (True /\ (True /\ (True /\
  True)))))))))))))))))))))))))))) /\ (Plain (bCells s.5) /\ ((True /\ (True /\ (True /\ (True /\ (True /\ (True /\ True)))))) /\ ((True /\ (True /\ (True /\ (True /\
  True)))) /\ ((True /\ (True /\ (True /\ True))) /\ ((True /\ True) /\ (Plain (bCells s.6) /\ ((True /\ (True /\ (True /\ True))) /\ ((True /\ (True /\ (True /\ True))) /\
  ((True /\ (True /\ (True /\ (True /\ (True /\ (True /\ True)))))) /\ True)))))))))) /\ ((Plain (bCells s.6) /\ (Plain (bCells (qR (Row.mk (bCells s.5) false (Ob.cells
  true)) (↑s.2 : Int) (bs (zs s.3)))) /\ True)) /\ ((1 : Int) = (1 : Int) /\ (false = false /\ (Row.mk [Value.bool true, Value.int IntKind.i64 (2 : Int), Value.int
  IntKind.i64 (65535 : Int), Value.int IntKind.i64 (65536 : Int), Value.int IntKind.i64 (4096 : Int), Value.int IntKind.i64 (2147483647 : Int), Value.int IntKind.i64 g.2,
  Value.int IntKind.i64 (16384 : Int), Value.int IntKind.i64 (2147483647 : Int), Value.slice (some (Addr.mk 1 0 none)) (List.length s.5) 1, Value.pointer (some (Addr.mk 2 0
  none)), Value.pointer (some (Addr.mk 3 0 none)), Value.pointer (some (Addr.mk 4 0 none)), Value.int IntKind.i64 s.4, Value.int IntKind.i64 (65535 : Int), Value.slice (some
  (Addr.mk 5 0 none)) 1 1, Value.slice none 0 0, Value.int IntKind.i64 (1 : Int), Value.int IntKind.i64 (1 : Int), Value.bool true, Value.bool false, Value.bool false,
  Value.bool false, Value.bool false, Value.int IntKind.i64 (0 : Int), Value.slice none 0 0, Value.bool false, Value.slice none 0 0] false (Ob.cells false) = Row.mk
  [Value.bool true, Value.int IntKind.i64 (2 : Int), Value.int IntKind.i64 (65535 : Int), Value.int IntKind.i64 (65536 : Int), Value.int IntKind.i64 (4096 : Int), Value.int
  IntKind.i64 (2147483647 : Int), Value.int IntKind.i64 g.2, Value.int IntKind.i64 (16384 : Int), Value.int IntKind.i64 (2147483647 : Int), Value.slice (some (Addr.mk 1 0
  none)) (List.length s.5) 1, Value.pointer (some (Addr.mk 2 0 none)), Value.pointer (some (Addr.mk 3 0 none)), Value.pointer (some (Addr.mk 4 0 none)), Value.int
  IntKind.i64 s.4, Value.int IntKind.i64 (65535 : Int), Value.slice (some (Addr.mk 5 0 none)) 1 1, Value.slice none 0 0, Value.int IntKind.i64 (1 : Int), Value.int
  IntKind.i64 (1 : Int), Value.bool true, Value.bool false, Value.bool false, Value.bool false, Value.bool false, Value.int IntKind.i64 (0 : Int), Value.slice none 0 0,
  Value.bool false, Value.slice none 0 0] false (Ob.cells false) /\ (IsQ (Row.mk (bCells s.5) false (Ob.cells true)) (List.length s.5) /\ ((0 = 0 /\ ((16384 : Int) = (16384
  : Int) /\ (ByteArray.mk #[] = ByteArray.mk #[] /\ ((0 : Int) = (0 : Int) /\ ((0 : Int) = (0 : Int) /\ (0 : Int) = (0 : Int)))))) /\ (Row.mk [Value.pointer (some (Addr.mk 7
  0 none)), Value.int IntKind.i64 (4096 : Int), Value.int IntKind.i64 (65536 : Int), Value.bool false] false (Ob.cells false) = Row.mk [Value.pointer (some (Addr.mk 7 0
  none)), Value.int IntKind.i64 (4096 : Int), Value.int IntKind.i64 (65536 : Int), Value.bool false] false (Ob.cells false) /\ (Row.mk [Value.pointer (some (Addr.mk 8 0
  none)), Value.bool false, Value.int IntKind.i64 (0 : Int)] false (Ob.cells false) = Row.mk [Value.pointer (some (Addr.mk 8 0 none)), Value.bool false, Value.int
  IntKind.i64 (0 : Int)] false (Ob.cells false) /\ (Row.mk [Value.pointer (some (Addr.mk 9 0 none))] false (Ob.cells false) = Row.mk [Value.pointer (some (Addr.mk 9 0
  none))] false (Ob.cells false) /\ (OkL (Row.mk (bCells s.6) false (Ob.cells true)) /\ (Row.mk [Value.slice none 0 0, Value.int IntKind.i64 (0 : Int), Value.int IntKind.i64
  (4096 : Int)] false (Ob.cells false) = Row.mk [Value.slice none 0 0, Value.int IntKind.i64 (0 : Int), Value.int IntKind.i64 (4096 : Int)] false (Ob.cells false) /\ (Row.mk
  [Value.slice none 0 0, Value.int IntKind.i64 (0 : Int), Value.int IntKind.i64 (4096 : Int)] false (Ob.cells false) = Row.mk [Value.slice none 0 0, Value.int IntKind.i64 (0
  : Int), Value.int IntKind.i64 (4096 : Int)] false (Ob.cells false) /\ (((1 : Int) = (1 : Int) /\ ((3 : Int) = (3 : Int) /\ ((65535 : Int) = (65535 : Int) /\ (true = true
  /\ true = true)))) /\ OkT (bs (zs s.3)) s.4 (↑s.2 : Int))))))))))))))))) /\ (br ((↑(mR (↑s.2 : Int) (bs (zs s.3))) : Int) != if Int.ofNat (List.length (Array.toList
  (ByteArray.data (bs (zs s.3))))) < (↑s.2 : Int) then Int.ofNat (List.length (Array.toList (ByteArray.data (bs (zs s.3))))) else (↑s.2 : Int)) False (br (decide ((0 : Int)
  <= (↑(mR (↑s.2 : Int) (bs (zs s.3))) : Int) /\ (↑(mR (↑s.2 : Int) (bs (zs s.3))) : Int) <= (↑(List.length (Array.toList (ByteArray.data (bs (zs s.3))))) : Int) /\
  (↑(List.length (Array.toList (ByteArray.data (bs (zs s.3))))) : Int) <= (↑(List.length (Array.toList (ByteArray.data (bs (zs s.3))))) : Int))) (br (decide ((0 : Int) <=
  (↑(mR (↑s.2 : Int) (bs (zs s.3))) : Int) /\ (↑(mR (↑s.2 : Int) (bs (zs s.3))) : Int) <= (↑(List.length (Array.toList (ByteArray.data (bs (zs s.3))))) : Int) /\
  (↑(List.length (Array.toList (ByteArray.data (bs (zs s.3))))) : Int) <= (↑(List.length (Array.toList (ByteArray.data (bs (zs s.3))))) : Int))) (br (veq 20 (Value.string
  (sub (bs (zs s.3)) (Int.toNat (↑(mR (↑s.2 : Int) (bs (zs s.3))) : Int)) (Int.toNat (↑(List.length (Array.toList (ByteArray.data (bs (zs s.3))))) : Int)))) (Value.string
  (sub (bs (zs s.3)) (Int.toNat (↑(mR (↑s.2 : Int) (bs (zs s.3))) : Int)) (Int.toNat (↑(List.length (Array.toList (ByteArray.data (bs (zs s.3))))) : Int))))) (∃ j : LS,
  ((Inv j) /\ ((m j < m s) /\ ((0 = 0) /\ ((List.length g.1 = List.length g.1) /\ ((0 = 0) /\ (((↑j.2 : Int) = IntKind.wrap IntKind.i64 ((↑s.2 : Int) - (↑(mR (↑s.2 : Int)
  (bs (zs s.3))) : Int))) /\ ((bs (zs j.3) = sub (bs (zs s.3)) (Int.toNat (↑(mR (↑s.2 : Int) (bs (zs s.3))) : Int)) (Int.toNat (↑(List.length (Array.toList (ByteArray.data
  (bs (zs s.3))))) : Int))) /\ ((j.1 = IntKind.wrap IntKind.i64 (s.1 + (1 : Int))) /\ ((Eq (α := List Value) (iCells IntKind.i64 g.1) (iCells IntKind.i64 g.1)) /\ ((Plain
  (iCells IntKind.i64 g.1)) /\ ((true = true) /\ (((2 : Int) = (2 : Int)) /\ (((65535 : Int) = (65535 : Int)) /\ (((65536 : Int) = (65536 : Int)) /\ (((4096 : Int) = (4096 :
  Int)) /\ (((2147483647 : Int) = (2147483647 : Int)) /\ ((g.2 = g.2) /\ (((16384 : Int) = (16384 : Int)) /\ (((2147483647 : Int) = (2147483647 : Int)) /\ ((0 = 0) /\
  ((List.length j.5 = List.length (qR (Row.mk (bCells s.5) false (Ob.cells true)) (↑s.2 : Int) (bs (zs s.3)))) /\ ((0 = 0) /\ ((0 = 0) /\ ((0 = 0) /\ ((j.4 = s.4 - (↑(mR
  (↑s.2 : Int) (bs (zs s.3))) : Int)) /\ (((65535 : Int) = (65535 : Int)) /\ ((0 = 0) /\ ((1 = 1) /\ (((1 : Int) = (1 : Int)) /\ (((1 : Int) = (1 : Int)) /\ ((true = true)
  /\ ((false = false) /\ ((false = false) /\ ((false = false) /\ ((false = false) /\ (((0 : Int) = (0 : Int)) /\ ((false = false) /\ ((Eq (α := List Value) (bCells j.5)
  (bCells (qR (Row.mk (bCells s.5) false (Ob.cells true)) (↑s.2 : Int) (bs (zs s.3))))) /\ ((Plain (bCells j.5)) /\ ((j.7 = 0 + s.7) /\ ((0 = 0) /\ (((16384 : Int) = (16384
  : Int)) /\ ((ByteArray.mk #[] = ByteArray.mk #[]) /\ (((0 : Int) = (0 : Int)) /\ (((0 : Int) = (0 : Int)) /\ (((0 : Int) = (0 : Int)) /\ ((Eq (α := List Value) (bCells
  j.6) (bCells s.6)) /\ ((Plain (bCells j.6)) /\ ((0 = 0) /\ (((4096 : Int) = (4096 : Int)) /\ (((65536 : Int) = (65536 : Int)) /\ ((false = false) /\ ((0 = 0) /\ ((false =
  false) /\ (((0 : Int) = (0 : Int)) /\ ((0 = 0) /\ (((1 : Int) = (1 : Int)) /\ (((3 : Int) = (3 : Int)) /\ (((↑j.2 : Int) = (↑s.2 : Int) - (↑(mR (↑s.2 : Int) (bs (zs s.3)))
  : Int)) /\ (((65535 : Int) = (65535 : Int)) /\ ((true = true) /\ ((true = true) /\ (((0 : Int) = (0 : Int)) /\ (((4096 : Int) = (4096 : Int)) /\ (((0 : Int) = (0 : Int))
  /\ (((4096 : Int) = (4096 : Int)) /\ True))))))))))))))))))))))))))))))))))))))))))))))))))))))))))))))))))) False) False) False)))) (∃ y : LS, ((True) /\ ((Eq (α := List
  Value) (iCells IntKind.i64 g.1) (iCells IntKind.i64 g.1)) /\ ((Plain (iCells IntKind.i64 g.1)) /\ True))))) (∃ y : LS, ((True) /\ ((Eq (α := List Value) (iCells
  IntKind.i64 g.1) (iCells IntKind.i64 g.1)) /\ ((Plain (iCells IntKind.i64 g.1)) /\ True))))) := by kernel_rfl
theorem tL_ok : ∀ x ∈ tL, EntOk Tryz.prog x := all_cons eWiG_ok (all_cons eFeW_ok (all_cons eData_ok all_nil))
theorem wl (K : Nat) : [Value.int .u8 0, .int .u8 0, .int .u8 4, .int .u8 8, .int .u8 0, .int .u8 0, .int .u8 0, .int .u8 0, .int .u8 1, .int .u8 0, .int .u8 0, .int .u8 (IntKind.u8.wrap (ishr .i64 (K : Int) 8)), .int .u8 (IntKind.u8.wrap (K : Int))] = bCells (fW (by8 (ishr .i64 (K : Int) 8)) (by8 (K : Int))) := by
  rw [by8_v, by8_v]; rfl
theorem kR_m (h l : UInt8) : kR ⟨bCells (fW h l), true, .cells true⟩ = h.toNat * 256 + l.toNat := kR_w h l
theorem yP_m (h l : UInt8) : yP ⟨bCells (fW h l), true, .cells true⟩ = fW h l := yP_w2 h l
theorem by8_pair (K : Nat) (h : K ≤ 65535) : (by8 (ishr .i64 (K : Int) 8)).toNat * 256 + (by8 (K : Int)).toNat = K := by
  have e := shr_nat K 8 (by omega)
  simp only [Int.cast_ofNat_Int] at e
  rw [e, by8_nat, by8_nat]; omega
theorem mR_m (N : Int) (l : List UInt8) : mR N (bs l) = dm l.length N := by unfold mR; rw [sealV_eq]; rfl
theorem qR_m (q : List UInt8) (N : Int) (l : List UInt8) (o : Bool) (b : Ob) : qR ⟨bCells q, o, b⟩ N (bs l) = finq q l (dm l.length N) := by unfold qR; rw [sealV_eq]; simp only [dB_mk]; rfl
theorem zs_drop (L m : Nat) : List.take (L - m) (List.drop m (zs L)) = zs (L - m) := by
  unfold zs; rw [List.drop_replicate, List.take_replicate, Nat.min_self]
theorem finq_len (q : List UInt8) (L m : Nat) (hm : m ≤ L) : (finq q (zs L) m).length ≤ q.length + 9 + m := by
  unfold finq
  split
  · omega
  · rw [List.length_append, List.length_append, head_len, List.length_take]; omega
theorem dm_nat (L M : Nat) : dm L (M : Int) = min L M := by unfold dm; rw [Int.toNat_natCast]
theorem ne_min (L M : Nat) : (((min L M : Nat) : Int) != if (L : Int) < (M : Int) then (L : Int) else (M : Int)) = false := by
  split <;> simp <;> omega
theorem veq_st (n : Nat) (t : ByteArray) : veq (n + 1) (.string t) (.string t) = true := by simp [veq]
def meL (s : LS) : Nat := (20 - s.i).toNat
set_option maxRecDepth 400000 in
theorem L_rok (g : GL) (s : LS) (hl : g.l.length ≤ maxLen) (hg : ∀ x ∈ g.l, I64 x) (hi : InvL s) : mev EL noM 200 12 (0 :: pLw) false (codeOf Tryz.prog 12 (0 :: pLw)) ⟨mkOv (slL g s), 99, []⟩ none ⟨mkR (rlL g s), 11⟩ (roundK 1 11 99 InvL meL (fun s : LS => slL g s) (fun s => rlL g s) (wsL g) s) := by
  have hD := L_round g s InvL meL
  refine Eq.mpr hD ?_
  clear hD
  obtain ⟨i0, i1, i2, i3, i4, i5, i6, i8, i9⟩ := hi
  have hzl : (zs s.L).length = s.L := List.length_replicate
  simp only [ofNat_eq, toNat_cast, Nat.zero_add, Nat.add_zero, Nat.mul_one, List.drop_zero, bCells_len, bCells_drop, bCells_take, bCells_app, bCells_one, bCells_plain, List.length_replicate, List.length_append, List.length_take, List.length_drop, List.take_length, and_true, true_and, and_self, decide_true, List.length_nil, List.length_cons, Nat.sub_zero, dB_mk, dB_ro, List.take_zero, Int.toNat_natCast, iCells_plain, iCells_len, bsd, subb, mR_m, qR_m, hzl]
  refine br_if (fun h1 => br_if (fun h2 => ?_) (fun h2 => ⟨s, trivial⟩)) (fun h1 => ⟨s, trivial⟩)
  have hb := s.q.length
  refine br_if (fun h3 => br_dec (by omega) ?_) (fun h3 => ?_)
  · have hil : s.i.toNat < g.l.length := by omega
    rw [iCells_cell hil]
    have hI : I64 (g.l.getD s.i.toNat 0) := by
      rw [List.getD_eq_getElem?_getD, List.getElem?_eq_getElem hil]; exact hg _ (List.getElem_mem _)
    obtain ⟨k1, k2⟩ := inside_in (g.l.getD s.i.toNat 0) 1 2000 (by decide)
    obtain ⟨K, hK⟩ : ∃ K : Nat, inside (g.l.getD s.i.toNat 0) 1 2000 = (K : Int) := ⟨(inside (g.l.getD s.i.toNat 0) 1 2000).toNat, by omega⟩
    rw [hK] at k1 k2
    have w1 : IntKind.i64.wrap ((s.n : Int) + (K : Int)) = ((s.n + K : Nat) : Int) := by rw [wr64_id (by unfold I64; omega)]; omega
    have hpr := by8_pair K (by omega)
    have hN : (s.n : Int) + (K : Int) = ((s.n + K : Nat) : Int) := by omega
    simp only [hK, wl K, kR_m, yP_m, hpr, w1, hN, iCells_get hil, veq_st, zs_drop, dm_nat]
    have w2 : IntKind.i64.wrap ((s.n + K : Nat) : Int) = ((s.n + K : Nat) : Int) := wr64_id (by unfold I64; omega)
    have hm : min s.L (s.n + K) ≤ s.L := Nat.min_le_left _ _
    have hm2 : min s.L (s.n + K) ≤ s.n + K := Nat.min_le_right _ _
    have w3 : IntKind.i64.wrap (((s.n + K : Nat) : Int) - ((min s.L (s.n + K) : Nat) : Int)) = ((s.n + K - min s.L (s.n + K) : Nat) : Int) := by rw [wr64_id (by unfold I64; omega)]; omega
    have w4 : IntKind.i64.wrap (s.i + 1) = s.i + 1 := wr64_id (by unfold I64; omega)
    have hq := finq_len s.q s.L (min s.L (s.n + K)) hm
    have hOT : OkT (bs (zs s.L)) s.W ((s.n + K : Nat) : Int) := ⟨zs s.L, rfl, by rw [hzl]; omega, by rw [hzl]; omega, i5, by omega, by omega⟩
    rw [w2, ne_min, w3, w4]
    refine ⟨trivial, ⟨hI, by decide⟩, ⟨⟨by decide, bCells_plain _⟩, ⟨_, _, rfl, by rw [hpr]; omega, by omega⟩, ⟨s.q, rfl, rfl, by omega⟩, ⟨s.x, rfl, i8, i9⟩, by omega, by omega⟩, ⟨⟨s.q, rfl, rfl, by omega⟩, ⟨_, rfl⟩, hOT⟩, br_nb rfl (br_dec (by omega) (br_dec (by omega) (br_b rfl ?_)))⟩
    refine ⟨⟨s.i + 1, s.n + K - min s.L (s.n + K), s.L - min s.L (s.n + K), s.W - ((min s.L (s.n + K) : Nat) : Int), finq s.q (zs s.L) (min s.L (s.n + K)), fW (by8 (ishr .i64 (K : Int) 8)) (by8 (K : Int)), 13⟩, ⟨by simp only; omega, by simp only; omega, by simp only; omega, by simp only; omega, by simp only; omega, by simp only; omega, by simp only; omega, rfl, by show 13 ≤ 1000; decide⟩, by unfold meL; simp only; omega, rfl, rfl, rfl, rfl, rfl, rfl, rfl, rfl, by simp only; omega⟩
  · simp only [veq_st, zs_drop, dm_nat]
    have hm : min s.L s.n ≤ s.L := Nat.min_le_left _ _
    have hm2 : min s.L s.n ≤ s.n := Nat.min_le_right _ _
    have w3 : IntKind.i64.wrap ((s.n : Int) - ((min s.L s.n : Nat) : Int)) = ((s.n - min s.L s.n : Nat) : Int) := by rw [wr64_id (by unfold I64; omega)]; omega
    have w4 : IntKind.i64.wrap (s.i + 1) = s.i + 1 := wr64_id (by unfold I64; omega)
    have hq := finq_len s.q s.L (min s.L s.n) hm
    have hOT : OkT (bs (zs s.L)) s.W (s.n : Int) := ⟨zs s.L, rfl, by rw [hzl]; omega, by rw [hzl]; omega, i5, by omega, by omega⟩
    rw [ne_min, w3, w4]
    refine ⟨⟨⟨s.q, rfl, rfl, by omega⟩, ⟨_, rfl⟩, hOT⟩, br_nb rfl (br_dec (by omega) (br_dec (by omega) (br_b rfl ?_)))⟩
    exact ⟨⟨s.i + 1, s.n - min s.L s.n, s.L - min s.L s.n, s.W - ((min s.L s.n : Nat) : Int), finq s.q (zs s.L) (min s.L s.n), s.x, s.k⟩, ⟨by simp only; omega, by simp only; omega, by simp only; omega, by simp only; omega, by simp only; omega, by simp only; omega, by simp only; omega, i8, i9⟩, by unfold meL; simp only; omega, rfl, rfl, rfl, rfl, rfl, rfl, rfl, rfl, by simp only; omega⟩
theorem L_piece : PieceOk EL 1 (12, pLw, specL) := by
  refine piece_loop tk.mixed (calls_envTc tL_ok) (lok_envTc _ _) lm_none (n := 200) (n' := 11) (by kernel_rfl) (fun g : GL × LS => g.2) (fun _ s => InvL s) (fun _ s => meL s) (sl := fun g s => slL g.1 s) (rl := fun g s => rlL g.1 s) (fun g hg => hg.2.2.2) (fun g s hg hi => L_rok g.1 s hg.1 hg.2.1 hi)
end Go.Proofs.YtcallecdjebojaaGreat.cw
