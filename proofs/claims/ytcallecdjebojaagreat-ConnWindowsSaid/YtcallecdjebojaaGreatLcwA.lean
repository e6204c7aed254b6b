/- DATA is sent: contract. -/
import Derived.Test.YtcallecdjebojaaGreatSz9
import Derived.Test.YtcallecdjebojaaGreatRows
import Derived.Test.YtcallecdjebojaaGreatLcgF
set_option maxRecDepth 20000
set_option linter.unusedSimpArgs false
set_option linter.unusedVariables false
namespace Go.Proofs.YtcallecdjebojaaGreat.cw
open Go Go.Ev Go.Sy Go.RowKit Go.Proofs.YtcallecdjebojaaGreat.gl Go.Proofs.YtcallecdjebojaaGreat.tk Go.Proofs.YtcallecdjebojaaGreat.cp Go.Proofs.YtcallecdjebojaaGreat.s9 Go.Proofs.YtcallecdjebojaaGreat.fd Go.Proofs.YtcallecdjebojaaGreat.fe Go.Proofs.YtcallecdjebojaaGreat.cu Go.Proofs.YtcallecdjebojaaGreat.cg
def lsV (n a b : Int) : Int := max (min (min n a) b) 0
noncomputable def eLs (K : Nat) : EntM := entC 54 fun a r => match a, r with
  | [.int .i64 n, .slice (some ⟨0, 0, none⟩) 2 1], [⟨[.int .i64 x, .int .i64 y], true, .cells sy⟩] => some (lsV n x y = (K : Int) ∧ sy = true, .int .i64 (K : Nat), [])
  | _, _ => none
structure GD where
  s : List UInt8
  x : List UInt8
  k : Nat
  v : Int
structure SD where
  sent : Nat
  q : List UInt8
  W : Int
  N : Int
def cnD (v W : Int) (qr qn : Nat) : Row := ⟨[.bool true, .int .i64 2, .int .i64 65535, .int .i64 65536, .int .i64 4096, .int .i64 2147483647, .int .i64 v, .int .i64 16384, .int .i64 2147483647, .slice (some ⟨qr, 0, none⟩) qn 1, .pointer (some ⟨2, 0, none⟩), .pointer (some ⟨3, 0, none⟩), .pointer (some ⟨4, 0, none⟩), .int .i64 W, .int .i64 65535, .slice (some ⟨5, 0, none⟩) 1 1, .slice none 0 0, .int .i64 1, .int .i64 1, .bool true, .bool false, .bool false, .bool false, .bool false, .int .i64 0, .slice none 0 0, .bool false, .slice none 0 0], false, .cells false⟩
def flD (N : Int) : Row := ⟨[.int .i64 1, .int .i64 3, .int .i64 N, .int .i64 65535, .bool true, .bool true], false, .cells false⟩
def stD (r : Nat) : Row := ⟨[.pointer (some ⟨r, 0, none⟩)], false, .cells false⟩
def slD (g : GD) (n : Nat) : List (Nat × Value) := [(0, .pointer (some ⟨0, 0, none⟩)), (1, .int .i64 1), (2, .string (bs g.s)), (3, .bool false), (10, .pointer (some ⟨9, 0, none⟩)), (11, .int .i64 (n : Nat))]
noncomputable def rlD (g : GD) (s : SD) : List (Nat × Row) := [(0, cnD g.v s.W 10 s.q.length), (2, cp.rdB 6 g.k 0), (3, unB 7), (4, pkB 8), (5, stD 9), (6, bOwn g.x), (7, tbB), (8, tbB), (9, flD s.N), (10, bOwn s.q)]
def dm (L : Nat) (N : Int) : Nat := min L N.toNat
def finq (q s : List UInt8) (m : Nat) : List UInt8 := if m = 0 then q else q ++ (headB m 0 0 1 ++ s.take m)
def fin (g : GD) (s : SD) : SD := ⟨dm g.s.length s.N, finq s.q g.s (dm g.s.length s.N), s.W - (dm g.s.length s.N : Nat), s.N - (dm g.s.length s.N : Nat)⟩
noncomputable def wsD (g : GD × SD) : List (Gate SD) :=
  [⟨.exit 0, fun y => y = fin g.1 g.2, fun y => [(0, .pointer (some ⟨0, 0, none⟩)), (3, .bool false), (10, .pointer (some ⟨9, 0, none⟩)), (11, .int .i64 (y.sent : Nat))], fun y => rlD g.1 y, 11⟩,
   ⟨.ret, fun y => y = fin g.1 g.2, fun y => [(8, .int .i64 (y.sent : Nat)), (9, .bool true)], fun y => rlD g.1 y, 11⟩]
def PreD (g : GD × SD) : Prop := g.2.sent = 0 ∧ 1 ≤ g.1.s.length ∧ g.1.s.length ≤ 8000 ∧ (g.1.s.length : Int) ≤ g.2.W ∧ g.2.W ≤ 65535 ∧ 0 ≤ g.2.N ∧ g.2.N ≤ 100000 ∧ g.2.q.length ≤ 100000
noncomputable def specD : Sy.Spec := specOf 10 11 122 PreD (fun g => slD g.1 0) (fun g => rlD g.1 g.2) wsD
def pD : List Nat := [0, 0, 1, 1, 1, 1, 1]
noncomputable def mD := mOf [(22, pD, specD)]
noncomputable def tD (K : Nat) : List EntM := [eRigT, eLs K]
noncomputable abbrev ED (K : Nat) : Env := envCut (envTc Tryz.prog (tD K)) [53]
noncomputable abbrev ED0 : Env := envCut (envTc Tryz.prog []) [53]
theorem Ls_vc (n x y v : Int) : mcall tk.E0 noM 60 54 [.int .i64 n, .slice (some ⟨0, 0, none⟩) 2 1] ⟨mkR (nums 0 [⟨[.int .i64 x, .int .i64 y], true, .cells true⟩]), 1⟩ (retIs 1 (.int .i64 v) [⟨[.int .i64 x, .int .i64 y], true, .cells true⟩]) =
  let z1 := ([Value.int IntKind.i64 x, Value.int IntKind.i64 y]); ((Eq (α := Option Value) (some (Value.int IntKind.i64 x)) (some (Value.int IntKind.i64 (cellI [Value.int
  IntKind.i64 x, Value.int IntKind.i64 y] 0)))) /\ ((Eq (α := Option Value) (some (Value.int IntKind.i64 y)) (some (Value.int IntKind.i64 (cellI [Value.int IntKind.i64 x,
  Value.int IntKind.i64 y] 1)))) /\ ((v = if (0 : Int) > if cellI [Value.int IntKind.i64 x, Value.int IntKind.i64 y] 1 < if cellI [Value.int IntKind.i64 x, Value.int
  IntKind.i64 y] 0 < n then cellI [Value.int IntKind.i64 x, Value.int IntKind.i64 y] 0 else n then cellI [Value.int IntKind.i64 x, Value.int IntKind.i64 y] 1 else if cellI
  [Value.int IntKind.i64 x, Value.int IntKind.i64 y] 0 < n then cellI [Value.int IntKind.i64 x, Value.int IntKind.i64 y] 0 else n then (0 : Int) else if cellI [Value.int
  IntKind.i64 x, Value.int IntKind.i64 y] 1 < if cellI [Value.int IntKind.i64 x, Value.int IntKind.i64 y] 0 < n then cellI [Value.int IntKind.i64 x, Value.int IntKind.i64 y]
  0 else n then cellI [Value.int IntKind.i64 x, Value.int IntKind.i64 y] 1 else if cellI [Value.int IntKind.i64 x, Value.int IntKind.i64 y] 0 < n then cellI [Value.int
  IntKind.i64 x, Value.int IntKind.i64 y] 0 else n) /\ ((Eq (α := List Value) z1 z1) /\ ((Plain [Value.int IntKind.i64 x, Value.int IntKind.i64 y]) /\ True))))) := by kernel_rfl
set_option maxHeartbeats 4000000 in
theorem D_round (g : GD × SD) (s : SD) (K : Nat) (Inv : SD → Prop) (m : SD → Nat) : mev (ED K) noM 60 22 (0 :: pD) false (codeOf Tryz.prog 22 (0 :: pD)) ⟨mkOv (slD g.1 s.sent), 122, []⟩ none ⟨mkR (rlD g.1 s), 11⟩ (roundK 10 11 122 Inv m (fun s : SD => slD g.1 s.sent) (fun s => rlD g.1 s) (wsD g) s) =
  let z1 := (Array.toList (ByteArray.data (sub (bs g.1.1) (Int.toNat (↑s.1 : Int)) (Int.toNat (IntKind.wrap IntKind.i64 ((↑s.1 : Int) + (↑K : Int))))))); let z7 :=
  (IntKind.wrap IntKind.u8 (ishr IntKind.i64 (Int.ofNat (List.length z1)) (16 : Int))); let z8 := (IntKind.wrap IntKind.u8 (ishr IntKind.i64 (Int.ofNat (List.length z1)) (8
  : Int))); let z9 := (IntKind.wrap IntKind.u8 (Int.ofNat (List.length z1))); let z2 := (List.take (List.length s.2 * 1) (List.drop 0 (bCells s.2)) ++ [Value.int IntKind.u8
  z7, Value.int IntKind.u8 z8, Value.int IntKind.u8 z9, Value.int IntKind.u8 (0 : Int), Value.int IntKind.u8 (0 : Int), Value.int IntKind.u8 (0 : Int), Value.int IntKind.u8
  (0 : Int), Value.int IntKind.u8 (0 : Int), Value.int IntKind.u8 (1 : Int)]); let z3 := (Value.agg (Array.mk [Value.int IntKind.i64 (0 : Int), Value.int IntKind.i64 (0 :
  Int), Value.int IntKind.i64 (1 : Int), Value.slice (some (Addr.mk 40 0 none)) (List.length z1) 1])); let z4 := (veq 20 (Value.slice (some (Addr.mk 10 0 none)) (List.length
  s.2) 1) (Value.slice (some (Addr.mk 10 0 none)) (List.length s.2) 1)); let z5 := (Eq (α := List Value) (bCells g.1.2) (bCells g.1.2)); let z6 := (List.take (List.length
  s.2 * 1) (List.drop 0 (bCells s.2)) ++ [Value.int IntKind.u8 (0 : Int), Value.int IntKind.u8 (0 : Int), Value.int IntKind.u8 (0 : Int), Value.int IntKind.u8 (0 : Int),
  Value.int IntKind.u8 (0 : Int), Value.int IntKind.u8 (0 : Int), Value.int IntKind.u8 (0 : Int), Value.int IntKind.u8 (0 : Int), Value.int IntKind.u8 (1 : Int)]); let z10
  := (List.length (Array.toList (ByteArray.data (bs g.1.1)))); let z11 := (decide (0 + List.length s.2 * 1 <= List.length (bCells s.2))); let z12 := (decide (0 < List.length
  s.2 + (9 + List.length z1) ∨ List.length (bCells s.2) = 0)); let z13 := (decide (List.length s.2 + (9 + List.length z1) <= 16777216)); let z14 := (Value.agg (Array.mk
  [Value.int IntKind.i64 s.3])); let z15 := (Value.agg (Array.mk [Value.int IntKind.i64 s.4])); let z16 := ((131072 : Int) - Int.ofNat (List.length s.2)); (br (decide ((↑s.1
  : Int) < Int.ofNat z10)) (br z4 ((((True /\ ((2 <= 2 /\ Plain [Value.int IntKind.i64 s.3, Value.int IntKind.i64 s.4]) /\ True)) /\ ((True /\ True) /\ (True /\ (lsV (if
  IntKind.wrap IntKind.i64 z16 < if (16384 : Int) < IntKind.wrap IntKind.i64 (Int.ofNat z10 - (↑s.1 : Int)) then (16384 : Int) else IntKind.wrap IntKind.i64 (Int.ofNat z10 -
  (↑s.1 : Int)) then IntKind.wrap IntKind.i64 z16 else if (16384 : Int) < IntKind.wrap IntKind.i64 (Int.ofNat z10 - (↑s.1 : Int)) then (16384 : Int) else IntKind.wrap
  IntKind.i64 (Int.ofNat z10 - (↑s.1 : Int))) s.3 s.4 = (↑K : Int) /\ true = true))))) /\ (br (veq 20 z14 z14) (br (veq 20 z15 z15) (br (decide ((↑K : Int) < (1 : Int))) (∃
  y : SD, ((y = fin (Prod.fst g) (Prod.snd g)) /\ (((↑y.1 : Int) = (↑s.1 : Int)) /\ ((true = true) /\ ((true = true) /\ (((2 : Int) = (2 : Int)) /\ (((65535 : Int) = (65535
  : Int)) /\ (((65536 : Int) = (65536 : Int)) /\ (((4096 : Int) = (4096 : Int)) /\ (((2147483647 : Int) = (2147483647 : Int)) /\ ((g.1.4 = g.1.4) /\ (((16384 : Int) = (16384
  : Int)) /\ (((2147483647 : Int) = (2147483647 : Int)) /\ ((0 = 0) /\ ((List.length y.2 = List.length s.2) /\ ((0 = 0) /\ ((0 = 0) /\ ((0 = 0) /\ ((y.3 = s.3) /\ (((65535 :
  Int) = (65535 : Int)) /\ ((0 = 0) /\ ((1 = 1) /\ (((1 : Int) = (1 : Int)) /\ (((1 : Int) = (1 : Int)) /\ ((true = true) /\ ((false = false) /\ ((false = false) /\ ((false
  = false) /\ ((false = false) /\ (((0 : Int) = (0 : Int)) /\ ((false = false) /\ ((g.1.3 = g.1.3) /\ ((0 = 0) /\ (((16384 : Int) = (16384 : Int)) /\ ((ByteArray.mk #[] =
  ByteArray.mk #[]) /\ (((0 : Int) = (0 : Int)) /\ (((0 : Int) = (0 : Int)) /\ (((0 : Int) = (0 : Int)) /\ ((0 = 0) /\ (((4096 : Int) = (4096 : Int)) /\ (((65536 : Int) =
  (65536 : Int)) /\ ((false = false) /\ ((0 = 0) /\ ((false = false) /\ (((0 : Int) = (0 : Int)) /\ ((0 = 0) /\ (z5 /\ ((Plain (bCells g.1.2)) /\ (((0 : Int) = (0 : Int)) /\
  (((4096 : Int) = (4096 : Int)) /\ (((0 : Int) = (0 : Int)) /\ (((4096 : Int) = (4096 : Int)) /\ (((1 : Int) = (1 : Int)) /\ (((3 : Int) = (3 : Int)) /\ ((y.4 = s.4) /\
  (((65535 : Int) = (65535 : Int)) /\ ((true = true) /\ ((true = true) /\ ((Eq (α := List Value) (bCells y.2) (bCells s.2)) /\ ((Plain (bCells y.2)) /\
  True)))))))))))))))))))))))))))))))))))))))))))))))))))))))))))) (br (decide ((0 : Int) <= (↑s.1 : Int) /\ (↑s.1 : Int) <= IntKind.wrap IntKind.i64 ((↑s.1 : Int) + (↑K :
  Int)) /\ IntKind.wrap IntKind.i64 ((↑s.1 : Int) + (↑K : Int)) <= (↑z10 : Int))) (br (decide (0 < List.length z1)) (((((True /\ (True /\ (True /\ ((0 + List.length z1 * 1
  <= List.length (List.map (fun b ↦ Value.int IntKind.u8 (↑(UInt8.toNat b) : Int)) z1) /\ Plain (List.take (List.length z1 * 1) (List.drop 0 (List.map (fun b ↦ Value.int
  IntKind.u8 (↑(UInt8.toNat b) : Int)) z1)))) /\ True)))) /\ True) /\ ((True /\ True) /\ (True /\ (IsB (Row.mk (List.take (List.length z1 * 1) (List.drop 0 (List.map (fun b
  ↦ Value.int IntKind.u8 (↑(UInt8.toNat b) : Int)) z1))) true (Ob.cells true)) (List.length z1) /\ rightB (0 : Int) (0 : Int) (1 : Int) (List.length z1) = true))))) /\ (br
  (decide ((0 : Int) <= (0 : Int) /\ (0 : Int) <= IntKind.wrap IntKind.i64 ((9 : Int) + Int.ofNat (List.length z1)) /\ IntKind.wrap IntKind.i64 ((9 : Int) + Int.ofNat
  (List.length z1)) <= (16777216 : Int))) (br (decide (0 < Int.toNat (0 : Int) + 0 ∨ List.length (List.replicate (Int.toNat (IntKind.wrap IntKind.i64 ((9 : Int) + Int.ofNat
  (List.length z1)))) (Value.int IntKind.u8 (0 : Int))) = 0)) (br (decide (0 + List.length z1 * 1 <= List.length (List.map (fun b ↦ Value.int IntKind.u8 (↑(UInt8.toNat b) :
  Int)) z1))) (br (allOne (List.take (List.length z1 * 1) (List.drop 0 (List.map (fun b ↦ Value.int IntKind.u8 (↑(UInt8.toNat b) : Int)) z1)))) (br (decide (9 + List.length
  z1 <= 16777216)) (br (decide (0 < 9 + List.length z1 ∨ 9 = 0)) (br (decide (0 + (9 + List.length z1) * 1 <= List.length (Value.int IntKind.u8 z7 :: Value.int IntKind.u8 z8
  :: Value.int IntKind.u8 z9 :: Value.int IntKind.u8 (0 : Int) :: Value.int IntKind.u8 (0 : Int) :: Value.int IntKind.u8 (0 : Int) :: Value.int IntKind.u8 (0 : Int) ::
  Value.int IntKind.u8 (0 : Int) :: Value.int IntKind.u8 (1 : Int) :: ([] ++ List.take (List.length z1 * 1) (List.drop 0 (List.map (fun b ↦ Value.int IntKind.u8
  (↑(UInt8.toNat b) : Int)) z1)))))) (br (allOne (List.take ((9 + List.length z1) * 1) (Value.int IntKind.u8 z7 :: Value.int IntKind.u8 z8 :: Value.int IntKind.u8 z9 ::
  Value.int IntKind.u8 (0 : Int) :: Value.int IntKind.u8 (0 : Int) :: Value.int IntKind.u8 (0 : Int) :: Value.int IntKind.u8 (0 : Int) :: Value.int IntKind.u8 (0 : Int) ::
  Value.int IntKind.u8 (1 : Int) :: ([] ++ List.take (List.length z1 * 1) (List.drop 0 (List.map (fun b ↦ Value.int IntKind.u8 (↑(UInt8.toNat b) : Int)) z1)))))) (br z13 (br
  z12 (br z11 (br z4 (br z4 (br (veq 20 z3 z3) (br (decide ((↑K : Int) > s.3)) (br (decide ((↑K : Int) > s.4)) (∃ j : SD, ((Inv j) /\ ((m j < m s) /\ ((0 = 0) /\ (((1 : Int)
  = (1 : Int)) /\ ((bs g.1.1 = bs g.1.1) /\ ((false = false) /\ ((0 = 0) /\ (((↑j.1 : Int) = IntKind.wrap IntKind.i64 ((↑s.1 : Int) + (↑K : Int))) /\ ((true = true) /\ (((2
  : Int) = (2 : Int)) /\ (((65535 : Int) = (65535 : Int)) /\ (((65536 : Int) = (65536 : Int)) /\ (((4096 : Int) = (4096 : Int)) /\ (((2147483647 : Int) = (2147483647 : Int))
  /\ ((g.1.4 = g.1.4) /\ (((16384 : Int) = (16384 : Int)) /\ (((2147483647 : Int) = (2147483647 : Int)) /\ ((0 = 0) /\ ((List.length j.2 = List.length s.2 + (9 + List.length
  z1)) /\ ((0 = 0) /\ ((0 = 0) /\ ((0 = 0) /\ ((j.3 = s.3) /\ (((65535 : Int) = (65535 : Int)) /\ ((0 = 0) /\ ((1 = 1) /\ (((1 : Int) = (1 : Int)) /\ (((1 : Int) = (1 :
  Int)) /\ ((true = true) /\ ((false = false) /\ ((false = false) /\ ((false = false) /\ ((false = false) /\ (((0 : Int) = (0 : Int)) /\ ((false = false) /\ ((g.1.3 = g.1.3)
  /\ ((0 = 0) /\ (((16384 : Int) = (16384 : Int)) /\ ((ByteArray.mk #[] = ByteArray.mk #[]) /\ (((0 : Int) = (0 : Int)) /\ (((0 : Int) = (0 : Int)) /\ (((0 : Int) = (0 :
  Int)) /\ ((0 = 0) /\ (((4096 : Int) = (4096 : Int)) /\ (((65536 : Int) = (65536 : Int)) /\ ((false = false) /\ ((0 = 0) /\ ((false = false) /\ (((0 : Int) = (0 : Int)) /\
  ((0 = 0) /\ (z5 /\ ((Plain (bCells g.1.2)) /\ (((0 : Int) = (0 : Int)) /\ (((4096 : Int) = (4096 : Int)) /\ (((0 : Int) = (0 : Int)) /\ (((4096 : Int) = (4096 : Int)) /\
  (((1 : Int) = (1 : Int)) /\ (((3 : Int) = (3 : Int)) /\ ((j.4 = s.4) /\ (((65535 : Int) = (65535 : Int)) /\ ((true = true) /\ ((true = true) /\ ((Eq (α := List Value)
  (bCells j.2) (List.take (List.length s.2 * 1) (List.drop 0 (bCells s.2)) ++ List.take ((9 + List.length z1) * 1) (Value.int IntKind.u8 z7 :: Value.int IntKind.u8 z8 ::
  Value.int IntKind.u8 z9 :: Value.int IntKind.u8 (0 : Int) :: Value.int IntKind.u8 (0 : Int) :: Value.int IntKind.u8 (0 : Int) :: Value.int IntKind.u8 (0 : Int) ::
  Value.int IntKind.u8 (0 : Int) :: Value.int IntKind.u8 (1 : Int) :: ([] ++ List.take (List.length z1 * 1) (List.drop 0 (List.map (fun b ↦ Value.int IntKind.u8
  (↑(UInt8.toNat b) : Int)) z1)))))) /\ ((Plain (bCells j.2)) /\ True))))))))))))))))))))))))))))))))))))))))))))))))))))))))))))))))) (∃ j : SD, ((Inv j) /\ ((m j < m s) /\
  ((0 = 0) /\ (((1 : Int) = (1 : Int)) /\ ((bs g.1.1 = bs g.1.1) /\ ((false = false) /\ ((0 = 0) /\ (((↑j.1 : Int) = IntKind.wrap IntKind.i64 ((↑s.1 : Int) + (↑K : Int))) /\
  ((true = true) /\ (((2 : Int) = (2 : Int)) /\ (((65535 : Int) = (65535 : Int)) /\ (((65536 : Int) = (65536 : Int)) /\ (((4096 : Int) = (4096 : Int)) /\ (((2147483647 :
  Int) = (2147483647 : Int)) /\ ((g.1.4 = g.1.4) /\ (((16384 : Int) = (16384 : Int)) /\ (((2147483647 : Int) = (2147483647 : Int)) /\ ((0 = 0) /\ ((List.length j.2 =
  List.length s.2 + (9 + List.length z1)) /\ ((0 = 0) /\ ((0 = 0) /\ ((0 = 0) /\ ((j.3 = s.3) /\ (((65535 : Int) = (65535 : Int)) /\ ((0 = 0) /\ ((1 = 1) /\ (((1 : Int) = (1
  : Int)) /\ (((1 : Int) = (1 : Int)) /\ ((true = true) /\ ((false = false) /\ ((false = false) /\ ((false = false) /\ ((false = false) /\ (((0 : Int) = (0 : Int)) /\
  ((false = false) /\ ((g.1.3 = g.1.3) /\ ((0 = 0) /\ (((16384 : Int) = (16384 : Int)) /\ ((ByteArray.mk #[] = ByteArray.mk #[]) /\ (((0 : Int) = (0 : Int)) /\ (((0 : Int) =
  (0 : Int)) /\ (((0 : Int) = (0 : Int)) /\ ((0 = 0) /\ (((4096 : Int) = (4096 : Int)) /\ (((65536 : Int) = (65536 : Int)) /\ ((false = false) /\ ((0 = 0) /\ ((false =
  false) /\ (((0 : Int) = (0 : Int)) /\ ((0 = 0) /\ (z5 /\ ((Plain (bCells g.1.2)) /\ (((0 : Int) = (0 : Int)) /\ (((4096 : Int) = (4096 : Int)) /\ (((0 : Int) = (0 : Int))
  /\ (((4096 : Int) = (4096 : Int)) /\ (((1 : Int) = (1 : Int)) /\ (((3 : Int) = (3 : Int)) /\ ((j.4 = IntKind.wrap IntKind.i64 (s.4 - (↑K : Int))) /\ (((65535 : Int) =
  (65535 : Int)) /\ ((true = true) /\ ((true = true) /\ ((Eq (α := List Value) (bCells j.2) (List.take (List.length s.2 * 1) (List.drop 0 (bCells s.2)) ++ List.take ((9 +
  List.length z1) * 1) (Value.int IntKind.u8 z7 :: Value.int IntKind.u8 z8 :: Value.int IntKind.u8 z9 :: Value.int IntKind.u8 (0 : Int) :: Value.int IntKind.u8 (0 : Int) ::
  Value.int IntKind.u8 (0 : Int) :: Value.int IntKind.u8 (0 : Int) :: Value.int IntKind.u8 (0 : Int) :: Value.int IntKind.u8 (1 : Int) :: ([] ++ List.take (List.length z1 *
  1) (List.drop 0 (List.map (fun b ↦ Value.int IntKind.u8 (↑(UInt8.toNat b) : Int)) z1)))))) /\ ((Plain (bCells j.2)) /\
  True)))))))))))))))))))))))))))))))))))))))))))))))))))))))))))))))))) (br (decide ((↑K : Int) > s.4)) (∃ j : SD, ((Inv j) /\ ((m j < m s) /\ ((0 = 0) /\ (((1 : Int) = (1
  : Int)) /\ ((bs g.1.1 = bs g.1.1) /\ ((false = false) /\ ((0 = 0) /\ (((↑j.1 : Int) = IntKind.wrap IntKind.i64 ((↑s.1 : Int) + (↑K : Int))) /\ ((true = true) /\ (((2 :
  Int) = (2 : Int)) /\ (((65535 : Int) = (65535 : Int)) /\ (((65536 : Int) = (65536 : Int)) /\ (((4096 : Int) = (4096 : Int)) /\ (((2147483647 : Int) = (2147483647 : Int))
  /\ ((g.1.4 = g.1.4) /\ (((16384 : Int) = (16384 : Int)) /\ (((2147483647 : Int) = (2147483647 : Int)) /\ ((0 = 0) /\ ((List.length j.2 = List.length s.2 + (9 + List.length
  z1)) /\ ((0 = 0) /\ ((0 = 0) /\ ((0 = 0) /\ ((j.3 = IntKind.wrap IntKind.i64 (s.3 - (↑K : Int))) /\ (((65535 : Int) = (65535 : Int)) /\ ((0 = 0) /\ ((1 = 1) /\ (((1 : Int)
  = (1 : Int)) /\ (((1 : Int) = (1 : Int)) /\ ((true = true) /\ ((false = false) /\ ((false = false) /\ ((false = false) /\ ((false = false) /\ (((0 : Int) = (0 : Int)) /\
  ((false = false) /\ ((g.1.3 = g.1.3) /\ ((0 = 0) /\ (((16384 : Int) = (16384 : Int)) /\ ((ByteArray.mk #[] = ByteArray.mk #[]) /\ (((0 : Int) = (0 : Int)) /\ (((0 : Int) =
  (0 : Int)) /\ (((0 : Int) = (0 : Int)) /\ ((0 = 0) /\ (((4096 : Int) = (4096 : Int)) /\ (((65536 : Int) = (65536 : Int)) /\ ((false = false) /\ ((0 = 0) /\ ((false =
  false) /\ (((0 : Int) = (0 : Int)) /\ ((0 = 0) /\ (z5 /\ ((Plain (bCells g.1.2)) /\ (((0 : Int) = (0 : Int)) /\ (((4096 : Int) = (4096 : Int)) /\ (((0 : Int) = (0 : Int))
  /\ (((4096 : Int) = (4096 : Int)) /\ (((1 : Int) = (1 : Int)) /\ (((3 : Int) = (3 : Int)) /\ ((j.4 = s.4) /\ (((65535 : Int) = (65535 : Int)) /\ ((true = true) /\ ((true =
  true) /\ ((Eq (α := List Value) (bCells j.2) (List.take (List.length s.2 * 1) (List.drop 0 (bCells s.2)) ++ List.take ((9 + List.length z1) * 1) (Value.int IntKind.u8 z7
  :: Value.int IntKind.u8 z8 :: Value.int IntKind.u8 z9 :: Value.int IntKind.u8 (0 : Int) :: Value.int IntKind.u8 (0 : Int) :: Value.int IntKind.u8 (0 : Int) :: Value.int
  IntKind.u8 (0 : Int) :: Value.int IntKind.u8 (0 : Int) :: Value.int IntKind.u8 (1 : Int) :: ([] ++ List.take (List.length z1 * 1) (List.drop 0 (List.map (fun b ↦ Value.int
  IntKind.u8 (↑(UInt8.toNat b) : Int)) z1)))))) /\ ((Plain (bCells j.2)) /\ True))))))))))))))))))))))))))))))))))))))))))))))))))))))))))))))))) (∃ j : SD, ((Inv j) /\ ((m
  j < m s) /\ ((0 = 0) /\ (((1 : Int) = (1 : Int)) /\ ((bs g.1.1 = bs g.1.1) /\ ((false = false) /\ ((0 = 0) /\ (((↑j.1 : Int) = IntKind.wrap IntKind.i64 ((↑s.1 : Int) + (↑K
  : Int))) /\ ((true = true) /\ (((2 : Int) = (2 : Int)) /\ (((65535 : Int) = (65535 : Int)) /\ (((65536 : Int) = (65536 : Int)) /\ (((4096 : Int) = (4096 : Int)) /\
  (((2147483647 : Int) = (2147483647 : Int)) /\ ((g.1.4 = g.1.4) /\ (((16384 : Int) = (16384 : Int)) /\ (((2147483647 : Int) = (2147483647 : Int)) /\ ((0 = 0) /\
  ((List.length j.2 = List.length s.2 + (9 + List.length z1)) /\ ((0 = 0) /\ ((0 = 0) /\ ((0 = 0) /\ ((j.3 = IntKind.wrap IntKind.i64 (s.3 - (↑K : Int))) /\ (((65535 : Int)
  = (65535 : Int)) /\ ((0 = 0) /\ ((1 = 1) /\ (((1 : Int) = (1 : Int)) /\ (((1 : Int) = (1 : Int)) /\ ((true = true) /\ ((false = false) /\ ((false = false) /\ ((false =
  false) /\ ((false = false) /\ (((0 : Int) = (0 : Int)) /\ ((false = false) /\ ((g.1.3 = g.1.3) /\ ((0 = 0) /\ (((16384 : Int) = (16384 : Int)) /\ ((ByteArray.mk #[] =
  ByteArray.mk #[]) /\ (((0 : Int) = (0 : Int)) /\ (((0 : Int) = (0 : Int)) /\ (((0 : Int) = (0 : Int)) /\ ((0 = 0) /\ (((4096 : Int) = (4096 : Int)) /\ (((65536 : Int) =
  (65536 : Int)) /\ ((false = false) /\ ((0 = 0) /\ ((false = false) /\ (((0 : Int) = (0 : Int)) /\ ((0 = 0) /\ (z5 /\ ((Plain (bCells g.1.2)) /\ (((0 : Int) = (0 : Int)) /\
  (((4096 : Int) = (4096 : Int)) /\ (((0 : Int) = (0 : Int)) /\ (((4096 : Int) = (4096 : Int)) /\ (((1 : Int) = (1 : Int)) /\ (((3 : Int) = (3 : Int)) /\ ((j.4 =
  IntKind.wrap IntKind.i64 (s.4 - (↑K : Int))) /\ (((65535 : Int) = (65535 : Int)) /\ ((true = true) /\ ((true = true) /\ ((Eq (α := List Value) (bCells j.2) (List.take
  (List.length s.2 * 1) (List.drop 0 (bCells s.2)) ++ List.take ((9 + List.length z1) * 1) (Value.int IntKind.u8 z7 :: Value.int IntKind.u8 z8 :: Value.int IntKind.u8 z9 ::
  Value.int IntKind.u8 (0 : Int) :: Value.int IntKind.u8 (0 : Int) :: Value.int IntKind.u8 (0 : Int) :: Value.int IntKind.u8 (0 : Int) :: Value.int IntKind.u8 (0 : Int) ::
  Value.int IntKind.u8 (1 : Int) :: ([] ++ List.take (List.length z1 * 1) (List.drop 0 (List.map (fun b ↦ Value.int IntKind.u8 (↑(UInt8.toNat b) : Int)) z1)))))) /\ ((Plain
  (bCells j.2)) /\ True))))))))))))))))))))))))))))))))))))))))))))))))))))))))))))))))))) False) False) False) False) (br z4 (br z4 (br (veq 20 z3 z3) (br (decide ((↑K :
  Int) > s.3)) (br (decide ((↑K : Int) > s.4)) (∃ j : SD, ((Inv j) /\ ((m j < m s) /\ ((0 = 0) /\ (((1 : Int) = (1 : Int)) /\ ((bs g.1.1 = bs g.1.1) /\ ((false = false) /\
  ((0 = 0) /\ (((↑j.1 : Int) = IntKind.wrap IntKind.i64 ((↑s.1 : Int) + (↑K : Int))) /\ ((true = true) /\ (((2 : Int) = (2 : Int)) /\ (((65535 : Int) = (65535 : Int)) /\
  (((65536 : Int) = (65536 : Int)) /\ (((4096 : Int) = (4096 : Int)) /\ (((2147483647 : Int) = (2147483647 : Int)) /\ ((g.1.4 = g.1.4) /\ (((16384 : Int) = (16384 : Int)) /\
  (((2147483647 : Int) = (2147483647 : Int)) /\ ((0 = 0) /\ ((List.length j.2 = List.length s.2) /\ ((0 = 0) /\ ((0 = 0) /\ ((0 = 0) /\ ((j.3 = s.3) /\ (((65535 : Int) =
  (65535 : Int)) /\ ((0 = 0) /\ ((1 = 1) /\ (((1 : Int) = (1 : Int)) /\ (((1 : Int) = (1 : Int)) /\ ((true = true) /\ ((false = false) /\ ((false = false) /\ ((false =
  false) /\ ((false = false) /\ (((0 : Int) = (0 : Int)) /\ ((false = false) /\ ((g.1.3 = g.1.3) /\ ((0 = 0) /\ (((16384 : Int) = (16384 : Int)) /\ ((ByteArray.mk #[] =
  ByteArray.mk #[]) /\ (((0 : Int) = (0 : Int)) /\ (((0 : Int) = (0 : Int)) /\ (((0 : Int) = (0 : Int)) /\ ((0 = 0) /\ (((4096 : Int) = (4096 : Int)) /\ (((65536 : Int) =
  (65536 : Int)) /\ ((false = false) /\ ((0 = 0) /\ ((false = false) /\ (((0 : Int) = (0 : Int)) /\ ((0 = 0) /\ (z5 /\ ((Plain (bCells g.1.2)) /\ (((0 : Int) = (0 : Int)) /\
  (((4096 : Int) = (4096 : Int)) /\ (((0 : Int) = (0 : Int)) /\ (((4096 : Int) = (4096 : Int)) /\ (((1 : Int) = (1 : Int)) /\ (((3 : Int) = (3 : Int)) /\ ((j.4 = s.4) /\
  (((65535 : Int) = (65535 : Int)) /\ ((true = true) /\ ((true = true) /\ ((Eq (α := List Value) (bCells j.2) (bCells s.2)) /\ ((Plain (bCells j.2)) /\
  True))))))))))))))))))))))))))))))))))))))))))))))))))))))))))))))))) (∃ j : SD, ((Inv j) /\ ((m j < m s) /\ ((0 = 0) /\ (((1 : Int) = (1 : Int)) /\ ((bs g.1.1 = bs g.1.1)
  /\ ((false = false) /\ ((0 = 0) /\ (((↑j.1 : Int) = IntKind.wrap IntKind.i64 ((↑s.1 : Int) + (↑K : Int))) /\ ((true = true) /\ (((2 : Int) = (2 : Int)) /\ (((65535 : Int)
  = (65535 : Int)) /\ (((65536 : Int) = (65536 : Int)) /\ (((4096 : Int) = (4096 : Int)) /\ (((2147483647 : Int) = (2147483647 : Int)) /\ ((g.1.4 = g.1.4) /\ (((16384 : Int)
  = (16384 : Int)) /\ (((2147483647 : Int) = (2147483647 : Int)) /\ ((0 = 0) /\ ((List.length j.2 = List.length s.2) /\ ((0 = 0) /\ ((0 = 0) /\ ((0 = 0) /\ ((j.3 = s.3) /\
  (((65535 : Int) = (65535 : Int)) /\ ((0 = 0) /\ ((1 = 1) /\ (((1 : Int) = (1 : Int)) /\ (((1 : Int) = (1 : Int)) /\ ((true = true) /\ ((false = false) /\ ((false = false)
  /\ ((false = false) /\ ((false = false) /\ (((0 : Int) = (0 : Int)) /\ ((false = false) /\ ((g.1.3 = g.1.3) /\ ((0 = 0) /\ (((16384 : Int) = (16384 : Int)) /\
  ((ByteArray.mk #[] = ByteArray.mk #[]) /\ (((0 : Int) = (0 : Int)) /\ (((0 : Int) = (0 : Int)) /\ (((0 : Int) = (0 : Int)) /\ ((0 = 0) /\ (((4096 : Int) = (4096 : Int)) /\
  (((65536 : Int) = (65536 : Int)) /\ ((false = false) /\ ((0 = 0) /\ ((false = false) /\ (((0 : Int) = (0 : Int)) /\ ((0 = 0) /\ (z5 /\ ((Plain (bCells g.1.2)) /\ (((0 :
  Int) = (0 : Int)) /\ (((4096 : Int) = (4096 : Int)) /\ (((0 : Int) = (0 : Int)) /\ (((4096 : Int) = (4096 : Int)) /\ (((1 : Int) = (1 : Int)) /\ (((3 : Int) = (3 : Int))
  /\ ((j.4 = IntKind.wrap IntKind.i64 (s.4 - (↑K : Int))) /\ (((65535 : Int) = (65535 : Int)) /\ ((true = true) /\ ((true = true) /\ ((Eq (α := List Value) (bCells j.2)
  (bCells s.2)) /\ ((Plain (bCells j.2)) /\ True)))))))))))))))))))))))))))))))))))))))))))))))))))))))))))))))))) (br (decide ((↑K : Int) > s.4)) (∃ j : SD, ((Inv j) /\ ((m
  j < m s) /\ ((0 = 0) /\ (((1 : Int) = (1 : Int)) /\ ((bs g.1.1 = bs g.1.1) /\ ((false = false) /\ ((0 = 0) /\ (((↑j.1 : Int) = IntKind.wrap IntKind.i64 ((↑s.1 : Int) + (↑K
  : Int))) /\ ((true = true) /\ (((2 : Int) = (2 : Int)) /\ (((65535 : Int) = (65535 : Int)) /\ (((65536 : Int) = (65536 : Int)) /\ (((4096 : Int) = (4096 : Int)) /\
  (((2147483647 : Int) = (2147483647 : Int)) /\ ((g.1.4 = g.1.4) /\ (((16384 : Int) = (16384 : Int)) /\ (((2147483647 : Int) = (2147483647 : Int)) /\ ((0 = 0) /\
  ((List.length j.2 = List.length s.2) /\ ((0 = 0) /\ ((0 = 0) /\ ((0 = 0) /\ ((j.3 = IntKind.wrap IntKind.i64 (s.3 - (↑K : Int))) /\ (((65535 : Int) = (65535 : Int)) /\ ((0
  = 0) /\ ((1 = 1) /\ (((1 : Int) = (1 : Int)) /\ (((1 : Int) = (1 : Int)) /\ ((true = true) /\ ((false = false) /\ ((false = false) /\ ((false = false) /\ ((false = false)
  /\ (((0 : Int) = (0 : Int)) /\ ((false = false) /\ ((g.1.3 = g.1.3) /\ ((0 = 0) /\ (((16384 : Int) = (16384 : Int)) /\ ((ByteArray.mk #[] = ByteArray.mk #[]) /\ (((0 :
  Int) = (0 : Int)) /\ (((0 : Int) = (0 : Int)) /\ (((0 : Int) = (0 : Int)) /\ ((0 = 0) /\ (((4096 : Int) = (4096 : Int)) /\ (((65536 : Int) = (65536 : Int)) /\ ((false =
  false) /\ ((0 = 0) /\ ((false = false) /\ (((0 : Int) = (0 : Int)) /\ ((0 = 0) /\ (z5 /\ ((Plain (bCells g.1.2)) /\ (((0 : Int) = (0 : Int)) /\ (((4096 : Int) = (4096 :
  Int)) /\ (((0 : Int) = (0 : Int)) /\ (((4096 : Int) = (4096 : Int)) /\ (((1 : Int) = (1 : Int)) /\ (((3 : Int) = (3 : Int)) /\ ((j.4 = s.4) /\ (((65535 : Int) = (65535 :
  Int)) /\ ((true = true) /\ ((true = true) /\ ((Eq (α := List Value) (bCells j.2) (bCells s.2)) /\ ((Plain (bCells j.2)) /\
  True))))))))))))))))))))))))))))))))))))))))))))))))))))))))))))))))) (∃ j : SD, ((Inv j) /\ ((m j < m s) /\ ((0 = 0) /\ (((1 : Int) = (1 : Int)) /\ ((bs g.1.1 = bs g.1.1)
  /\ ((false = false) /\ ((0 = 0) /\ (((↑j.1 : Int) = IntKind.wrap IntKind.i64 ((↑s.1 : Int) + (↑K : Int))) /\ ((true = true) /\ (((2 : Int) = (2 : Int)) /\ (((65535 : Int)
  = (65535 : Int)) /\ (((65536 : Int) = (65536 : Int)) /\ (((4096 : Int) = (4096 : Int)) /\ (((2147483647 : Int) = (2147483647 : Int)) /\ ((g.1.4 = g.1.4) /\ (((16384 : Int)
  = (16384 : Int)) /\ (((2147483647 : Int) = (2147483647 : Int)) /\ ((0 = 0) /\ ((List.length j.2 = List.length s.2) /\ ((0 = 0) /\ ((0 = 0) /\ ((0 = 0) /\ ((j.3 =
  IntKind.wrap IntKind.i64 (s.3 - (↑K : Int))) /\ (((65535 : Int) = (65535 : Int)) /\ ((0 = 0) /\ ((1 = 1) /\ (((1 : Int) = (1 : Int)) /\ (((1 : Int) = (1 : Int)) /\ ((true
  = true) /\ ((false = false) /\ ((false = false) /\ ((false = false) /\ ((false = false) /\ (((0 : Int) = (0 : Int)) /\ ((false = false) /\ ((g.1.3 = g.1.3) /\ ((0 = 0) /\
  (((16384 : Int) = (16384 : Int)) /\ ((ByteArray.mk #[] = ByteArray.mk #[]) /\ (((0 : Int) = (0 : Int)) /\ (((0 : Int) = (0 : Int)) /\ (((0 : Int) = (0 : Int)) /\ ((0 = 0)
  /\ (((4096 : Int) = (4096 : Int)) /\ (((65536 : Int) = (65536 : Int)) /\ ((false = false) /\ ((0 = 0) /\ ((false = false) /\ (((0 : Int) = (0 : Int)) /\ ((0 = 0) /\ (z5 /\
  ((Plain (bCells g.1.2)) /\ (((0 : Int) = (0 : Int)) /\ (((4096 : Int) = (4096 : Int)) /\ (((0 : Int) = (0 : Int)) /\ (((4096 : Int) = (4096 : Int)) /\ (((1 : Int) = (1 :
  Int)) /\ (((3 : Int) = (3 : Int)) /\ ((j.4 = IntKind.wrap IntKind.i64 (s.4 - (↑K : Int))) /\ (((65535 : Int) = (65535 : Int)) /\ ((true = true) /\ ((true = true) /\ ((Eq
  (α := List Value) (bCells j.2) (bCells s.2)) /\ ((Plain (bCells j.2)) /\ True))))))))))))))))))))))))))))))))))))))))))))))))))))))))))))))))))) False) False) False))
  False) False) False) (br (decide (List.length s.2 + 9 <= 16777216)) (br z11 (br z4 (br z4 (br (veq 20 z3 z3) (br (decide ((↑K : Int) > s.3)) (br (decide ((↑K : Int) >
  s.4)) (∃ j : SD, ((Inv j) /\ ((m j < m s) /\ ((0 = 0) /\ (((1 : Int) = (1 : Int)) /\ ((bs g.1.1 = bs g.1.1) /\ ((false = false) /\ ((0 = 0) /\ (((↑j.1 : Int) =
  IntKind.wrap IntKind.i64 ((↑s.1 : Int) + (↑K : Int))) /\ ((true = true) /\ (((2 : Int) = (2 : Int)) /\ (((65535 : Int) = (65535 : Int)) /\ (((65536 : Int) = (65536 : Int))
  /\ (((4096 : Int) = (4096 : Int)) /\ (((2147483647 : Int) = (2147483647 : Int)) /\ ((g.1.4 = g.1.4) /\ (((16384 : Int) = (16384 : Int)) /\ (((2147483647 : Int) =
  (2147483647 : Int)) /\ ((0 = 0) /\ ((List.length j.2 = List.length s.2 + 9) /\ ((0 = 0) /\ ((0 = 0) /\ ((0 = 0) /\ ((j.3 = s.3) /\ (((65535 : Int) = (65535 : Int)) /\ ((0
  = 0) /\ ((1 = 1) /\ (((1 : Int) = (1 : Int)) /\ (((1 : Int) = (1 : Int)) /\ ((true = true) /\ ((false = false) /\ ((false = false) /\ ((false = false) /\ ((false = false)
  /\ (((0 : Int) = (0 : Int)) /\ ((false = false) /\ ((g.1.3 = g.1.3) /\ ((0 = 0) /\ (((16384 : Int) = (16384 : Int)) /\ ((ByteArray.mk #[] = ByteArray.mk #[]) /\ (((0 :
  Int) = (0 : Int)) /\ (((0 : Int) = (0 : Int)) /\ (((0 : Int) = (0 : Int)) /\ ((0 = 0) /\ (((4096 : Int) = (4096 : Int)) /\ (((65536 : Int) = (65536 : Int)) /\ ((false =
  false) /\ ((0 = 0) /\ ((false = false) /\ (((0 : Int) = (0 : Int)) /\ ((0 = 0) /\ (z5 /\ ((Plain (bCells g.1.2)) /\ (((0 : Int) = (0 : Int)) /\ (((4096 : Int) = (4096 :
  Int)) /\ (((0 : Int) = (0 : Int)) /\ (((4096 : Int) = (4096 : Int)) /\ (((1 : Int) = (1 : Int)) /\ (((3 : Int) = (3 : Int)) /\ ((j.4 = s.4) /\ (((65535 : Int) = (65535 :
  Int)) /\ ((true = true) /\ ((true = true) /\ ((Eq (α := List Value) (bCells j.2) z2) /\ ((Plain (bCells j.2)) /\
  True))))))))))))))))))))))))))))))))))))))))))))))))))))))))))))))))) (∃ j : SD, ((Inv j) /\ ((m j < m s) /\ ((0 = 0) /\ (((1 : Int) = (1 : Int)) /\ ((bs g.1.1 = bs g.1.1)
  /\ ((false = false) /\ ((0 = 0) /\ (((↑j.1 : Int) = IntKind.wrap IntKind.i64 ((↑s.1 : Int) + (↑K : Int))) /\ ((true = true) /\ (((2 : Int) = (2 : Int)) /\ (((65535 : Int)
  = (65535 : Int)) /\ (((65536 : Int) = (65536 : Int)) /\ (((4096 : Int) = (4096 : Int)) /\ (((2147483647 : Int) = (2147483647 : Int)) /\ ((g.1.4 = g.1.4) /\ (((16384 : Int)
  = (16384 : Int)) /\ (((2147483647 : Int) = (2147483647 : Int)) /\ ((0 = 0) /\ ((List.length j.2 = List.length s.2 + 9) /\ ((0 = 0) /\ ((0 = 0) /\ ((0 = 0) /\ ((j.3 = s.3)
  /\ (((65535 : Int) = (65535 : Int)) /\ ((0 = 0) /\ ((1 = 1) /\ (((1 : Int) = (1 : Int)) /\ (((1 : Int) = (1 : Int)) /\ ((true = true) /\ ((false = false) /\ ((false =
  false) /\ ((false = false) /\ ((false = false) /\ (((0 : Int) = (0 : Int)) /\ ((false = false) /\ ((g.1.3 = g.1.3) /\ ((0 = 0) /\ (((16384 : Int) = (16384 : Int)) /\
  ((ByteArray.mk #[] = ByteArray.mk #[]) /\ (((0 : Int) = (0 : Int)) /\ (((0 : Int) = (0 : Int)) /\ (((0 : Int) = (0 : Int)) /\ ((0 = 0) /\ (((4096 : Int) = (4096 : Int)) /\
  (((65536 : Int) = (65536 : Int)) /\ ((false = false) /\ ((0 = 0) /\ ((false = false) /\ (((0 : Int) = (0 : Int)) /\ ((0 = 0) /\ (z5 /\ ((Plain (bCells g.1.2)) /\ (((0 :
  Int) = (0 : Int)) /\ (((4096 : Int) = (4096 : Int)) /\ (((0 : Int) = (0 : Int)) /\ (((4096 : Int) = (4096 : Int)) /\ (((1 : Int) = (1 : Int)) /\ (((3 : Int) = (3 : Int))
  /\ ((j.4 = IntKind.wrap IntKind.i64 (s.4 - (↑K : Int))) /\ (((65535 : Int) = (65535 : Int)) /\ ((true = true) /\ ((true = true) /\ ((Eq (α := List Value) (bCells j.2) z2)
  /\ ((Plain (bCells j.2)) /\ True)))))))))))))))))))))))))))))))))))))))))))))))))))))))))))))))))) (br (decide ((↑K : Int) > s.4)) (∃ j : SD, ((Inv j) /\ ((m j < m s) /\
  ((0 = 0) /\ (((1 : Int) = (1 : Int)) /\ ((bs g.1.1 = bs g.1.1) /\ ((false = false) /\ ((0 = 0) /\ (((↑j.1 : Int) = IntKind.wrap IntKind.i64 ((↑s.1 : Int) + (↑K : Int))) /\
  ((true = true) /\ (((2 : Int) = (2 : Int)) /\ (((65535 : Int) = (65535 : Int)) /\ (((65536 : Int) = (65536 : Int)) /\ (((4096 : Int) = (4096 : Int)) /\ (((2147483647 :
  Int) = (2147483647 : Int)) /\ ((g.1.4 = g.1.4) /\ (((16384 : Int) = (16384 : Int)) /\ (((2147483647 : Int) = (2147483647 : Int)) /\ ((0 = 0) /\ ((List.length j.2 =
  List.length s.2 + 9) /\ ((0 = 0) /\ ((0 = 0) /\ ((0 = 0) /\ ((j.3 = IntKind.wrap IntKind.i64 (s.3 - (↑K : Int))) /\ (((65535 : Int) = (65535 : Int)) /\ ((0 = 0) /\ ((1 =
  1) /\ (((1 : Int) = (1 : Int)) /\ (((1 : Int) = (1 : Int)) /\ ((true = true) /\ ((false = false) /\ ((false = false) /\ ((false = false) /\ ((false = false) /\ (((0 : Int)
  = (0 : Int)) /\ ((false = false) /\ ((g.1.3 = g.1.3) /\ ((0 = 0) /\ (((16384 : Int) = (16384 : Int)) /\ ((ByteArray.mk #[] = ByteArray.mk #[]) /\ (((0 : Int) = (0 : Int))
  /\ (((0 : Int) = (0 : Int)) /\ (((0 : Int) = (0 : Int)) /\ ((0 = 0) /\ (((4096 : Int) = (4096 : Int)) /\ (((65536 : Int) = (65536 : Int)) /\ ((false = false) /\ ((0 = 0)
  /\ ((false = false) /\ (((0 : Int) = (0 : Int)) /\ ((0 = 0) /\ (z5 /\ ((Plain (bCells g.1.2)) /\ (((0 : Int) = (0 : Int)) /\ (((4096 : Int) = (4096 : Int)) /\ (((0 : Int)
  = (0 : Int)) /\ (((4096 : Int) = (4096 : Int)) /\ (((1 : Int) = (1 : Int)) /\ (((3 : Int) = (3 : Int)) /\ ((j.4 = s.4) /\ (((65535 : Int) = (65535 : Int)) /\ ((true =
  true) /\ ((true = true) /\ ((Eq (α := List Value) (bCells j.2) z2) /\ ((Plain (bCells j.2)) /\ True))))))))))))))))))))))))))))))))))))))))))))))))))))))))))))))))) (∃ j :
  SD, ((Inv j) /\ ((m j < m s) /\ ((0 = 0) /\ (((1 : Int) = (1 : Int)) /\ ((bs g.1.1 = bs g.1.1) /\ ((false = false) /\ ((0 = 0) /\ (((↑j.1 : Int) = IntKind.wrap IntKind.i64
  ((↑s.1 : Int) + (↑K : Int))) /\ ((true = true) /\ (((2 : Int) = (2 : Int)) /\ (((65535 : Int) = (65535 : Int)) /\ (((65536 : Int) = (65536 : Int)) /\ (((4096 : Int) =
  (4096 : Int)) /\ (((2147483647 : Int) = (2147483647 : Int)) /\ ((g.1.4 = g.1.4) /\ (((16384 : Int) = (16384 : Int)) /\ (((2147483647 : Int) = (2147483647 : Int)) /\ ((0 =
  0) /\ ((List.length j.2 = List.length s.2 + 9) /\ ((0 = 0) /\ ((0 = 0) /\ ((0 = 0) /\ ((j.3 = IntKind.wrap IntKind.i64 (s.3 - (↑K : Int))) /\ (((65535 : Int) = (65535 :
  Int)) /\ ((0 = 0) /\ ((1 = 1) /\ (((1 : Int) = (1 : Int)) /\ (((1 : Int) = (1 : Int)) /\ ((true = true) /\ ((false = false) /\ ((false = false) /\ ((false = false) /\
  ((false = false) /\ (((0 : Int) = (0 : Int)) /\ ((false = false) /\ ((g.1.3 = g.1.3) /\ ((0 = 0) /\ (((16384 : Int) = (16384 : Int)) /\ ((ByteArray.mk #[] = ByteArray.mk
  #[]) /\ (((0 : Int) = (0 : Int)) /\ (((0 : Int) = (0 : Int)) /\ (((0 : Int) = (0 : Int)) /\ ((0 = 0) /\ (((4096 : Int) = (4096 : Int)) /\ (((65536 : Int) = (65536 : Int))
  /\ ((false = false) /\ ((0 = 0) /\ ((false = false) /\ (((0 : Int) = (0 : Int)) /\ ((0 = 0) /\ (z5 /\ ((Plain (bCells g.1.2)) /\ (((0 : Int) = (0 : Int)) /\ (((4096 : Int)
  = (4096 : Int)) /\ (((0 : Int) = (0 : Int)) /\ (((4096 : Int) = (4096 : Int)) /\ (((1 : Int) = (1 : Int)) /\ (((3 : Int) = (3 : Int)) /\ ((j.4 = IntKind.wrap IntKind.i64
  (s.4 - (↑K : Int))) /\ (((65535 : Int) = (65535 : Int)) /\ ((true = true) /\ ((true = true) /\ ((Eq (α := List Value) (bCells j.2) z2) /\ ((Plain (bCells j.2)) /\
  True))))))))))))))))))))))))))))))))))))))))))))))))))))))))))))))))))) False) False) False) False) False)) False) False) False) (br (decide (0 + List.length z1 * 1 <=
  List.length (List.map (fun b ↦ Value.int IntKind.u8 (↑(UInt8.toNat b) : Int)) z1))) (br (allOne (List.take (List.length z1 * 1) (List.drop 0 (List.map (fun b ↦ Value.int
  IntKind.u8 (↑(UInt8.toNat b) : Int)) z1)))) (br (decide (9 + List.length z1 <= 16777216)) (br (decide (0 < 9 + List.length z1 ∨ 9 = 0)) (br (decide (0 + (9 + List.length
  z1) * 1 <= List.length (Value.int IntKind.u8 z7 :: Value.int IntKind.u8 z8 :: Value.int IntKind.u8 z9 :: Value.int IntKind.u8 (0 : Int) :: Value.int IntKind.u8 (0 : Int)
  :: Value.int IntKind.u8 (0 : Int) :: Value.int IntKind.u8 (0 : Int) :: Value.int IntKind.u8 (0 : Int) :: Value.int IntKind.u8 (1 : Int) :: ([] ++ List.take (List.length z1
  * 1) (List.drop 0 (List.map (fun b ↦ Value.int IntKind.u8 (↑(UInt8.toNat b) : Int)) z1)))))) (br (allOne (List.take ((9 + List.length z1) * 1) (Value.int IntKind.u8 z7 ::
  Value.int IntKind.u8 z8 :: Value.int IntKind.u8 z9 :: Value.int IntKind.u8 (0 : Int) :: Value.int IntKind.u8 (0 : Int) :: Value.int IntKind.u8 (0 : Int) :: Value.int
  IntKind.u8 (0 : Int) :: Value.int IntKind.u8 (0 : Int) :: Value.int IntKind.u8 (1 : Int) :: ([] ++ List.take (List.length z1 * 1) (List.drop 0 (List.map (fun b ↦ Value.int
  IntKind.u8 (↑(UInt8.toNat b) : Int)) z1)))))) (br z13 (br z12 (br z11 (br z4 (br z4 (br (veq 20 z3 z3) (br (decide ((↑K : Int) > s.3)) (br (decide ((↑K : Int) > s.4)) (∃ j
  : SD, ((Inv j) /\ ((m j < m s) /\ ((0 = 0) /\ (((1 : Int) = (1 : Int)) /\ ((bs g.1.1 = bs g.1.1) /\ ((false = false) /\ ((0 = 0) /\ (((↑j.1 : Int) = IntKind.wrap
  IntKind.i64 ((↑s.1 : Int) + (↑K : Int))) /\ ((true = true) /\ (((2 : Int) = (2 : Int)) /\ (((65535 : Int) = (65535 : Int)) /\ (((65536 : Int) = (65536 : Int)) /\ (((4096 :
  Int) = (4096 : Int)) /\ (((2147483647 : Int) = (2147483647 : Int)) /\ ((g.1.4 = g.1.4) /\ (((16384 : Int) = (16384 : Int)) /\ (((2147483647 : Int) = (2147483647 : Int)) /\
  ((0 = 0) /\ ((List.length j.2 = List.length s.2 + (9 + List.length z1)) /\ ((0 = 0) /\ ((0 = 0) /\ ((0 = 0) /\ ((j.3 = s.3) /\ (((65535 : Int) = (65535 : Int)) /\ ((0 = 0)
  /\ ((1 = 1) /\ (((1 : Int) = (1 : Int)) /\ (((1 : Int) = (1 : Int)) /\ ((true = true) /\ ((false = false) /\ ((false = false) /\ ((false = false) /\ ((false = false) /\
  (((0 : Int) = (0 : Int)) /\ ((false = false) /\ ((g.1.3 = g.1.3) /\ ((0 = 0) /\ (((16384 : Int) = (16384 : Int)) /\ ((ByteArray.mk #[] = ByteArray.mk #[]) /\ (((0 : Int) =
  (0 : Int)) /\ (((0 : Int) = (0 : Int)) /\ (((0 : Int) = (0 : Int)) /\ ((0 = 0) /\ (((4096 : Int) = (4096 : Int)) /\ (((65536 : Int) = (65536 : Int)) /\ ((false = false) /\
  ((0 = 0) /\ ((false = false) /\ (((0 : Int) = (0 : Int)) /\ ((0 = 0) /\ (z5 /\ ((Plain (bCells g.1.2)) /\ (((0 : Int) = (0 : Int)) /\ (((4096 : Int) = (4096 : Int)) /\
  (((0 : Int) = (0 : Int)) /\ (((4096 : Int) = (4096 : Int)) /\ (((1 : Int) = (1 : Int)) /\ (((3 : Int) = (3 : Int)) /\ ((j.4 = s.4) /\ (((65535 : Int) = (65535 : Int)) /\
  ((true = true) /\ ((true = true) /\ ((Eq (α := List Value) (bCells j.2) (List.take (List.length s.2 * 1) (List.drop 0 (bCells s.2)) ++ List.take ((9 + List.length z1) * 1)
  (Value.int IntKind.u8 z7 :: Value.int IntKind.u8 z8 :: Value.int IntKind.u8 z9 :: Value.int IntKind.u8 (0 : Int) :: Value.int IntKind.u8 (0 : Int) :: Value.int IntKind.u8
  (0 : Int) :: Value.int IntKind.u8 (0 : Int) :: Value.int IntKind.u8 (0 : Int) :: Value.int IntKind.u8 (1 : Int) :: ([] ++ List.take (List.length z1 * 1) (List.drop 0
  (List.map (fun b ↦ Value.int IntKind.u8 (↑(UInt8.toNat b) : Int)) z1)))))) /\ ((Plain (bCells j.2)) /\
  True))))))))))))))))))))))))))))))))))))))))))))))))))))))))))))))))) (∃ j : SD, ((Inv j) /\ ((m j < m s) /\ ((0 = 0) /\ (((1 : Int) = (1 : Int)) /\ ((bs g.1.1 = bs g.1.1)
  /\ ((false = false) /\ ((0 = 0) /\ (((↑j.1 : Int) = IntKind.wrap IntKind.i64 ((↑s.1 : Int) + (↑K : Int))) /\ ((true = true) /\ (((2 : Int) = (2 : Int)) /\ (((65535 : Int)
  = (65535 : Int)) /\ (((65536 : Int) = (65536 : Int)) /\ (((4096 : Int) = (4096 : Int)) /\ (((2147483647 : Int) = (2147483647 : Int)) /\ ((g.1.4 = g.1.4) /\ (((16384 : Int)
  = (16384 : Int)) /\ (((2147483647 : Int) = (2147483647 : Int)) /\ ((0 = 0) /\ ((List.length j.2 = List.length s.2 + (9 + List.length z1)) /\ ((0 = 0) /\ ((0 = 0) /\ ((0 =
  0) /\ ((j.3 = s.3) /\ (((65535 : Int) = (65535 : Int)) /\ ((0 = 0) /\ ((1 = 1) /\ (((1 : Int) = (1 : Int)) /\ (((1 : Int) = (1 : Int)) /\ ((true = true) /\ ((false =
  false) /\ ((false = false) /\ ((false = false) /\ ((false = false) /\ (((0 : Int) = (0 : Int)) /\ ((false = false) /\ ((g.1.3 = g.1.3) /\ ((0 = 0) /\ (((16384 : Int) =
  (16384 : Int)) /\ ((ByteArray.mk #[] = ByteArray.mk #[]) /\ (((0 : Int) = (0 : Int)) /\ (((0 : Int) = (0 : Int)) /\ (((0 : Int) = (0 : Int)) /\ ((0 = 0) /\ (((4096 : Int)
  = (4096 : Int)) /\ (((65536 : Int) = (65536 : Int)) /\ ((false = false) /\ ((0 = 0) /\ ((false = false) /\ (((0 : Int) = (0 : Int)) /\ ((0 = 0) /\ (z5 /\ ((Plain (bCells
  g.1.2)) /\ (((0 : Int) = (0 : Int)) /\ (((4096 : Int) = (4096 : Int)) /\ (((0 : Int) = (0 : Int)) /\ (((4096 : Int) = (4096 : Int)) /\ (((1 : Int) = (1 : Int)) /\ (((3 :
  Int) = (3 : Int)) /\ ((j.4 = IntKind.wrap IntKind.i64 (s.4 - (↑K : Int))) /\ (((65535 : Int) = (65535 : Int)) /\ ((true = true) /\ ((true = true) /\ ((Eq (α := List Value)
  (bCells j.2) (List.take (List.length s.2 * 1) (List.drop 0 (bCells s.2)) ++ List.take ((9 + List.length z1) * 1) (Value.int IntKind.u8 z7 :: Value.int IntKind.u8 z8 ::
  Value.int IntKind.u8 z9 :: Value.int IntKind.u8 (0 : Int) :: Value.int IntKind.u8 (0 : Int) :: Value.int IntKind.u8 (0 : Int) :: Value.int IntKind.u8 (0 : Int) ::
  Value.int IntKind.u8 (0 : Int) :: Value.int IntKind.u8 (1 : Int) :: ([] ++ List.take (List.length z1 * 1) (List.drop 0 (List.map (fun b ↦ Value.int IntKind.u8
  (↑(UInt8.toNat b) : Int)) z1)))))) /\ ((Plain (bCells j.2)) /\ True)))))))))))))))))))))))))))))))))))))))))))))))))))))))))))))))))) (br (decide ((↑K : Int) > s.4)) (∃ j
  : SD, ((Inv j) /\ ((m j < m s) /\ ((0 = 0) /\ (((1 : Int) = (1 : Int)) /\ ((bs g.1.1 = bs g.1.1) /\ ((false = false) /\ ((0 = 0) /\ (((↑j.1 : Int) = IntKind.wrap
  IntKind.i64 ((↑s.1 : Int) + (↑K : Int))) /\ ((true = true) /\ (((2 : Int) = (2 : Int)) /\ (((65535 : Int) = (65535 : Int)) /\ (((65536 : Int) = (65536 : Int)) /\ (((4096 :
  Int) = (4096 : Int)) /\ (((2147483647 : Int) = (2147483647 : Int)) /\ ((g.1.4 = g.1.4) /\ (((16384 : Int) = (16384 : Int)) /\ (((2147483647 : Int) = (2147483647 : Int)) /\
  ((0 = 0) /\ ((List.length j.2 = List.length s.2 + (9 + List.length z1)) /\ ((0 = 0) /\ ((0 = 0) /\ ((0 = 0) /\ ((j.3 = IntKind.wrap IntKind.i64 (s.3 - (↑K : Int))) /\
  (((65535 : Int) = (65535 : Int)) /\ ((0 = 0) /\ ((1 = 1) /\ (((1 : Int) = (1 : Int)) /\ (((1 : Int) = (1 : Int)) /\ ((true = true) /\ ((false = false) /\ ((false = false)
  /\ ((false = false) /\ ((false = false) /\ (((0 : Int) = (0 : Int)) /\ ((false = false) /\ ((g.1.3 = g.1.3) /\ ((0 = 0) /\ (((16384 : Int) = (16384 : Int)) /\
  ((ByteArray.mk #[] = ByteArray.mk #[]) /\ (((0 : Int) = (0 : Int)) /\ (((0 : Int) = (0 : Int)) /\ (((0 : Int) = (0 : Int)) /\ ((0 = 0) /\ (((4096 : Int) = (4096 : Int)) /\
  (((65536 : Int) = (65536 : Int)) /\ ((false = false) /\ ((0 = 0) /\ ((false = false) /\ (((0 : Int) = (0 : Int)) /\ ((0 = 0) /\ (z5 /\ ((Plain (bCells g.1.2)) /\ (((0 :
  Int) = (0 : Int)) /\ (((4096 : Int) = (4096 : Int)) /\ (((0 : Int) = (0 : Int)) /\ (((4096 : Int) = (4096 : Int)) /\ (((1 : Int) = (1 : Int)) /\ (((3 : Int) = (3 : Int))
  /\ ((j.4 = s.4) /\ (((65535 : Int) = (65535 : Int)) /\ ((true = true) /\ ((true = true) /\ ((Eq (α := List Value) (bCells j.2) (List.take (List.length s.2 * 1) (List.drop
  0 (bCells s.2)) ++ List.take ((9 + List.length z1) * 1) (Value.int IntKind.u8 z7 :: Value.int IntKind.u8 z8 :: Value.int IntKind.u8 z9 :: Value.int IntKind.u8 (0 : Int) ::
  Value.int IntKind.u8 (0 : Int) :: Value.int IntKind.u8 (0 : Int) :: Value.int IntKind.u8 (0 : Int) :: Value.int IntKind.u8 (0 : Int) :: Value.int IntKind.u8 (1 : Int) ::
  ([] ++ List.take (List.length z1 * 1) (List.drop 0 (List.map (fun b ↦ Value.int IntKind.u8 (↑(UInt8.toNat b) : Int)) z1)))))) /\ ((Plain (bCells j.2)) /\
  True))))))))))))))))))))))))))))))))))))))))))))))))))))))))))))))))) (∃ j : SD, ((Inv j) /\ ((m j < m s) /\ ((0 = 0) /\ (((1 : Int) = (1 : Int)) /\ ((bs g.1.1 = bs g.1.1)
  /\ ((false = false) /\ ((0 = 0) /\ (((↑j.1 : Int) = IntKind.wrap IntKind.i64 ((↑s.1 : Int) + (↑K : Int))) /\ ((true = true) /\ (((2 : Int) = (2 : Int)) /\ (((65535 : Int)
  = (65535 : Int)) /\ (((65536 : Int) = (65536 : Int)) /\ (((4096 : Int) = (4096 : Int)) /\ (((2147483647 : Int) = (2147483647 : Int)) /\ ((g.1.4 = g.1.4) /\ (((16384 : Int)
  = (16384 : Int)) /\ (((2147483647 : Int) = (2147483647 : Int)) /\ ((0 = 0) /\ ((List.length j.2 = List.length s.2 + (9 + List.length z1)) /\ ((0 = 0) /\ ((0 = 0) /\ ((0 =
  0) /\ ((j.3 = IntKind.wrap IntKind.i64 (s.3 - (↑K : Int))) /\ (((65535 : Int) = (65535 : Int)) /\ ((0 = 0) /\ ((1 = 1) /\ (((1 : Int) = (1 : Int)) /\ (((1 : Int) = (1 :
  Int)) /\ ((true = true) /\ ((false = false) /\ ((false = false) /\ ((false = false) /\ ((false = false) /\ (((0 : Int) = (0 : Int)) /\ ((false = false) /\ ((g.1.3 = g.1.3)
  /\ ((0 = 0) /\ (((16384 : Int) = (16384 : Int)) /\ ((ByteArray.mk #[] = ByteArray.mk #[]) /\ (((0 : Int) = (0 : Int)) /\ (((0 : Int) = (0 : Int)) /\ (((0 : Int) = (0 :
  Int)) /\ ((0 = 0) /\ (((4096 : Int) = (4096 : Int)) /\ (((65536 : Int) = (65536 : Int)) /\ ((false = false) /\ ((0 = 0) /\ ((false = false) /\ (((0 : Int) = (0 : Int)) /\
  ((0 = 0) /\ (z5 /\ ((Plain (bCells g.1.2)) /\ (((0 : Int) = (0 : Int)) /\ (((4096 : Int) = (4096 : Int)) /\ (((0 : Int) = (0 : Int)) /\ (((4096 : Int) = (4096 : Int)) /\
  (((1 : Int) = (1 : Int)) /\ (((3 : Int) = (3 : Int)) /\ ((j.4 = IntKind.wrap IntKind.i64 (s.4 - (↑K : Int))) /\ (((65535 : Int) = (65535 : Int)) /\ ((true = true) /\
  ((true = true) /\ ((Eq (α := List Value) (bCells j.2) (List.take (List.length s.2 * 1) (List.drop 0 (bCells s.2)) ++ List.take ((9 + List.length z1) * 1) (Value.int
  IntKind.u8 z7 :: Value.int IntKind.u8 z8 :: Value.int IntKind.u8 z9 :: Value.int IntKind.u8 (0 : Int) :: Value.int IntKind.u8 (0 : Int) :: Value.int IntKind.u8 (0 : Int)
  :: Value.int IntKind.u8 (0 : Int) :: Value.int IntKind.u8 (0 : Int) :: Value.int IntKind.u8 (1 : Int) :: ([] ++ List.take (List.length z1 * 1) (List.drop 0 (List.map (fun
  b ↦ Value.int IntKind.u8 (↑(UInt8.toNat b) : Int)) z1)))))) /\ ((Plain (bCells j.2)) /\ True))))))))))))))))))))))))))))))))))))))))))))))))))))))))))))))))))) False)
  False) False) False) (br z4 (br z4 (br (veq 20 z3 z3) (br (decide ((↑K : Int) > s.3)) (br (decide ((↑K : Int) > s.4)) (∃ j : SD, ((Inv j) /\ ((m j < m s) /\ ((0 = 0) /\
  (((1 : Int) = (1 : Int)) /\ ((bs g.1.1 = bs g.1.1) /\ ((false = false) /\ ((0 = 0) /\ (((↑j.1 : Int) = IntKind.wrap IntKind.i64 ((↑s.1 : Int) + (↑K : Int))) /\ ((true =
  true) /\ (((2 : Int) = (2 : Int)) /\ (((65535 : Int) = (65535 : Int)) /\ (((65536 : Int) = (65536 : Int)) /\ (((4096 : Int) = (4096 : Int)) /\ (((2147483647 : Int) =
  (2147483647 : Int)) /\ ((g.1.4 = g.1.4) /\ (((16384 : Int) = (16384 : Int)) /\ (((2147483647 : Int) = (2147483647 : Int)) /\ ((0 = 0) /\ ((List.length j.2 = List.length
  s.2) /\ ((0 = 0) /\ ((0 = 0) /\ ((0 = 0) /\ ((j.3 = s.3) /\ (((65535 : Int) = (65535 : Int)) /\ ((0 = 0) /\ ((1 = 1) /\ (((1 : Int) = (1 : Int)) /\ (((1 : Int) = (1 :
  Int)) /\ ((true = true) /\ ((false = false) /\ ((false = false) /\ ((false = false) /\ ((false = false) /\ (((0 : Int) = (0 : Int)) /\ ((false = false) /\ ((g.1.3 = g.1.3)
  /\ ((0 = 0) /\ (((16384 : Int) = (16384 : Int)) /\ ((ByteArray.mk #[] = ByteArray.mk #[]) /\ (((0 : Int) = (0 : Int)) /\ (((0 : Int) = (0 : Int)) /\ (((0 : Int) = (0 :
  Int)) /\ ((0 = 0) /\ (((4096 : Int) = (4096 : Int)) /\ (((65536 : Int) = (65536 : Int)) /\ ((false = false) /\ ((0 = 0) /\ ((false = false) /\ (((0 : Int) = (0 : Int)) /\
  ((0 = 0) /\ (z5 /\ ((Plain (bCells g.1.2)) /\ (((0 : Int) = (0 : Int)) /\ (((4096 : Int) = (4096 : Int)) /\ (((0 : Int) = (0 : Int)) /\ (((4096 : Int) = (4096 : Int)) /\
  (((1 : Int) = (1 : Int)) /\ (((3 : Int) = (3 : Int)) /\ ((j.4 = s.4) /\ (((65535 : Int) = (65535 : Int)) /\ ((true = true) /\ ((true = true) /\ ((Eq (α := List Value)
  (bCells j.2) (bCells s.2)) /\ ((Plain (bCells j.2)) /\ True))))))))))))))))))))))))))))))))))))))))))))))))))))))))))))))))) (∃ j : SD, ((Inv j) /\ ((m j < m s) /\ ((0 =
  0) /\ (((1 : Int) = (1 : Int)) /\ ((bs g.1.1 = bs g.1.1) /\ ((false = false) /\ ((0 = 0) /\ (((↑j.1 : Int) = IntKind.wrap IntKind.i64 ((↑s.1 : Int) + (↑K : Int))) /\
  ((true = true) /\ (((2 : Int) = (2 : Int)) /\ (((65535 : Int) = (65535 : Int)) /\ (((65536 : Int) = (65536 : Int)) /\ (((4096 : Int) = (4096 : Int)) /\ (((2147483647 :
  Int) = (2147483647 : Int)) /\ ((g.1.4 = g.1.4) /\ (((16384 : Int) = (16384 : Int)) /\ (((2147483647 : Int) = (2147483647 : Int)) /\ ((0 = 0) /\ ((List.length j.2 =
  List.length s.2) /\ ((0 = 0) /\ ((0 = 0) /\ ((0 = 0) /\ ((j.3 = s.3) /\ (((65535 : Int) = (65535 : Int)) /\ ((0 = 0) /\ ((1 = 1) /\ (((1 : Int) = (1 : Int)) /\ (((1 : Int)
  = (1 : Int)) /\ ((true = true) /\ ((false = false) /\ ((false = false) /\ ((false = false) /\ ((false = false) /\ (((0 : Int) = (0 : Int)) /\ ((false = false) /\ ((g.1.3 =
  g.1.3) /\ ((0 = 0) /\ (((16384 : Int) = (16384 : Int)) /\ ((ByteArray.mk #[] = ByteArray.mk #[]) /\ (((0 : Int) = (0 : Int)) /\ (((0 : Int) = (0 : Int)) /\ (((0 : Int) =
  (0 : Int)) /\ ((0 = 0) /\ (((4096 : Int) = (4096 : Int)) /\ (((65536 : Int) = (65536 : Int)) /\ ((false = false) /\ ((0 = 0) /\ ((false = false) /\ (((0 : Int) = (0 :
  Int)) /\ ((0 = 0) /\ (z5 /\ ((Plain (bCells g.1.2)) /\ (((0 : Int) = (0 : Int)) /\ (((4096 : Int) = (4096 : Int)) /\ (((0 : Int) = (0 : Int)) /\ (((4096 : Int) = (4096 :
  Int)) /\ (((1 : Int) = (1 : Int)) /\ (((3 : Int) = (3 : Int)) /\ ((j.4 = IntKind.wrap IntKind.i64 (s.4 - (↑K : Int))) /\ (((65535 : Int) = (65535 : Int)) /\ ((true = true)
  /\ ((true = true) /\ ((Eq (α := List Value) (bCells j.2) (bCells s.2)) /\ ((Plain (bCells j.2)) /\ True))))))))))))))))))))))))))))))))))))))))))))))))))))))))))))))))))
  (br (decide ((↑K : Int) > s.4)) (∃ j : SD, ((Inv j) /\ ((m j < m s) /\ ((0 = 0) /\ (((1 : Int) = (1 : Int)) /\ ((bs g.1.1 = bs g.1.1) /\ ((false = false) /\ ((0 = 0) /\
  (((↑j.1 : Int) = IntKind.wrap IntKind.i64 ((↑s.1 : Int) + (↑K : Int))) /\ ((true = true) /\ (((2 : Int) = (2 : Int)) /\ (((65535 : Int) = (65535 : Int)) /\ (((65536 : Int)
  = (65536 : Int)) /\ (((4096 : Int) = (4096 : Int)) /\ (((2147483647 : Int) = (2147483647 : Int)) /\ ((g.1.4 = g.1.4) /\ (((16384 : Int) = (16384 : Int)) /\ (((2147483647 :
  Int) = (2147483647 : Int)) /\ ((0 = 0) /\ ((List.length j.2 = List.length s.2) /\ ((0 = 0) /\ ((0 = 0) /\ ((0 = 0) /\ ((j.3 = IntKind.wrap IntKind.i64 (s.3 - (↑K : Int)))
  /\ (((65535 : Int) = (65535 : Int)) /\ ((0 = 0) /\ ((1 = 1) /\ (((1 : Int) = (1 : Int)) /\ (((1 : Int) = (1 : Int)) /\ ((true = true) /\ ((false = false) /\ ((false =
  false) /\ ((false = false) /\ ((false = false) /\ (((0 : Int) = (0 : Int)) /\ ((false = false) /\ ((g.1.3 = g.1.3) /\ ((0 = 0) /\ (((16384 : Int) = (16384 : Int)) /\
  ((ByteArray.mk #[] = ByteArray.mk #[]) /\ (((0 : Int) = (0 : Int)) /\ (((0 : Int) = (0 : Int)) /\ (((0 : Int) = (0 : Int)) /\ ((0 = 0) /\ (((4096 : Int) = (4096 : Int)) /\
  (((65536 : Int) = (65536 : Int)) /\ ((false = false) /\ ((0 = 0) /\ ((false = false) /\ (((0 : Int) = (0 : Int)) /\ ((0 = 0) /\ (z5 /\ ((Plain (bCells g.1.2)) /\ (((0 :
  Int) = (0 : Int)) /\ (((4096 : Int) = (4096 : Int)) /\ (((0 : Int) = (0 : Int)) /\ (((4096 : Int) = (4096 : Int)) /\ (((1 : Int) = (1 : Int)) /\ (((3 : Int) = (3 : Int))
  /\ ((j.4 = s.4) /\ (((65535 : Int) = (65535 : Int)) /\ ((true = true) /\ ((true = true) /\ ((Eq (α := List Value) (bCells j.2) (bCells s.2)) /\ ((Plain (bCells j.2)) /\
  True))))))))))))))))))))))))))))))))))))))))))))))))))))))))))))))))) (∃ j : SD, ((Inv j) /\ ((m j < m s) /\ ((0 = 0) /\ (((1 : Int) = (1 : Int)) /\ ((bs g.1.1 = bs g.1.1)
  /\ ((false = false) /\ ((0 = 0) /\ (((↑j.1 : Int) = IntKind.wrap IntKind.i64 ((↑s.1 : Int) + (↑K : Int))) /\ ((true = true) /\ (((2 : Int) = (2 : Int)) /\ (((65535 : Int)
  = (65535 : Int)) /\ (((65536 : Int) = (65536 : Int)) /\ (((4096 : Int) = (4096 : Int)) /\ (((2147483647 : Int) = (2147483647 : Int)) /\ ((g.1.4 = g.1.4) /\ (((16384 : Int)
  = (16384 : Int)) /\ (((2147483647 : Int) = (2147483647 : Int)) /\ ((0 = 0) /\ ((List.length j.2 = List.length s.2) /\ ((0 = 0) /\ ((0 = 0) /\ ((0 = 0) /\ ((j.3 =
  IntKind.wrap IntKind.i64 (s.3 - (↑K : Int))) /\ (((65535 : Int) = (65535 : Int)) /\ ((0 = 0) /\ ((1 = 1) /\ (((1 : Int) = (1 : Int)) /\ (((1 : Int) = (1 : Int)) /\ ((true
  = true) /\ ((false = false) /\ ((false = false) /\ ((false = false) /\ ((false = false) /\ (((0 : Int) = (0 : Int)) /\ ((false = false) /\ ((g.1.3 = g.1.3) /\ ((0 = 0) /\
  (((16384 : Int) = (16384 : Int)) /\ ((ByteArray.mk #[] = ByteArray.mk #[]) /\ (((0 : Int) = (0 : Int)) /\ (((0 : Int) = (0 : Int)) /\ (((0 : Int) = (0 : Int)) /\ ((0 = 0)
  /\ (((4096 : Int) = (4096 : Int)) /\ (((65536 : Int) = (65536 : Int)) /\ ((false = false) /\ ((0 = 0) /\ ((false = false) /\ (((0 : Int) = (0 : Int)) /\ ((0 = 0) /\ (z5 /\
  ((Plain (bCells g.1.2)) /\ (((0 : Int) = (0 : Int)) /\ (((4096 : Int) = (4096 : Int)) /\ (((0 : Int) = (0 : Int)) /\ (((4096 : Int) = (4096 : Int)) /\ (((1 : Int) = (1 :
  Int)) /\ (((3 : Int) = (3 : Int)) /\ ((j.4 = IntKind.wrap IntKind.i64 (s.4 - (↑K : Int))) /\ (((65535 : Int) = (65535 : Int)) /\ ((true = true) /\ ((true = true) /\ ((Eq
  (α := List Value) (bCells j.2) (bCells s.2)) /\ ((Plain (bCells j.2)) /\ True))))))))))))))))))))))))))))))))))))))))))))))))))))))))))))))))))) False) False) False))
  False) False) False) (br (decide (List.length s.2 + 9 <= 16777216)) (br z11 (br z4 (br z4 (br (veq 20 z3 z3) (br (decide ((↑K : Int) > s.3)) (br (decide ((↑K : Int) >
  s.4)) (∃ j : SD, ((Inv j) /\ ((m j < m s) /\ ((0 = 0) /\ (((1 : Int) = (1 : Int)) /\ ((bs g.1.1 = bs g.1.1) /\ ((false = false) /\ ((0 = 0) /\ (((↑j.1 : Int) =
  IntKind.wrap IntKind.i64 ((↑s.1 : Int) + (↑K : Int))) /\ ((true = true) /\ (((2 : Int) = (2 : Int)) /\ (((65535 : Int) = (65535 : Int)) /\ (((65536 : Int) = (65536 : Int))
  /\ (((4096 : Int) = (4096 : Int)) /\ (((2147483647 : Int) = (2147483647 : Int)) /\ ((g.1.4 = g.1.4) /\ (((16384 : Int) = (16384 : Int)) /\ (((2147483647 : Int) =
  (2147483647 : Int)) /\ ((0 = 0) /\ ((List.length j.2 = List.length s.2 + 9) /\ ((0 = 0) /\ ((0 = 0) /\ ((0 = 0) /\ ((j.3 = s.3) /\ (((65535 : Int) = (65535 : Int)) /\ ((0
  = 0) /\ ((1 = 1) /\ (((1 : Int) = (1 : Int)) /\ (((1 : Int) = (1 : Int)) /\ ((true = true) /\ ((false = false) /\ ((false = false) /\ ((false = false) /\ ((false = false)
  /\ (((0 : Int) = (0 : Int)) /\ ((false = false) /\ ((g.1.3 = g.1.3) /\ ((0 = 0) /\ (((16384 : Int) = (16384 : Int)) /\ ((ByteArray.mk #[] = ByteArray.mk #[]) /\ (((0 :
  Int) = (0 : Int)) /\ (((0 : Int) = (0 : Int)) /\ (((0 : Int) = (0 : Int)) /\ ((0 = 0) /\ (((4096 : Int) = (4096 : Int)) /\ (((65536 : Int) = (65536 : Int)) /\ ((false =
  false) /\ ((0 = 0) /\ ((false = false) /\ (((0 : Int) = (0 : Int)) /\ ((0 = 0) /\ (z5 /\ ((Plain (bCells g.1.2)) /\ (((0 : Int) = (0 : Int)) /\ (((4096 : Int) = (4096 :
  Int)) /\ (((0 : Int) = (0 : Int)) /\ (((4096 : Int) = (4096 : Int)) /\ (((1 : Int) = (1 : Int)) /\ (((3 : Int) = (3 : Int)) /\ ((j.4 = s.4) /\ (((65535 : Int) = (65535 :
  Int)) /\ ((true = true) /\ ((true = true) /\ ((Eq (α := List Value) (bCells j.2) z2) /\ ((Plain (bCells j.2)) /\
  True))))))))))))))))))))))))))))))))))))))))))))))))))))))))))))))))) (∃ j : SD, ((Inv j) /\ ((m j < m s) /\ ((0 = 0) /\ (((1 : Int) = (1 : Int)) /\ ((bs g.1.1 = bs g.1.1)
  /\ ((false = false) /\ ((0 = 0) /\ (((↑j.1 : Int) = IntKind.wrap IntKind.i64 ((↑s.1 : Int) + (↑K : Int))) /\ ((true = true) /\ (((2 : Int) = (2 : Int)) /\ (((65535 : Int)
  = (65535 : Int)) /\ (((65536 : Int) = (65536 : Int)) /\ (((4096 : Int) = (4096 : Int)) /\ (((2147483647 : Int) = (2147483647 : Int)) /\ ((g.1.4 = g.1.4) /\ (((16384 : Int)
  = (16384 : Int)) /\ (((2147483647 : Int) = (2147483647 : Int)) /\ ((0 = 0) /\ ((List.length j.2 = List.length s.2 + 9) /\ ((0 = 0) /\ ((0 = 0) /\ ((0 = 0) /\ ((j.3 = s.3)
  /\ (((65535 : Int) = (65535 : Int)) /\ ((0 = 0) /\ ((1 = 1) /\ (((1 : Int) = (1 : Int)) /\ (((1 : Int) = (1 : Int)) /\ ((true = true) /\ ((false = false) /\ ((false =
  false) /\ ((false = false) /\ ((false = false) /\ (((0 : Int) = (0 : Int)) /\ ((false = false) /\ ((g.1.3 = g.1.3) /\ ((0 = 0) /\ (((16384 : Int) = (16384 : Int)) /\
  ((ByteArray.mk #[] = ByteArray.mk #[]) /\ (((0 : Int) = (0 : Int)) /\ (((0 : Int) = (0 : Int)) /\ (((0 : Int) = (0 : Int)) /\ ((0 = 0) /\ (((4096 : Int) = (4096 : Int)) /\
  (((65536 : Int) = (65536 : Int)) /\ ((false = false) /\ ((0 = 0) /\ ((false = false) /\ (((0 : Int) = (0 : Int)) /\ ((0 = 0) /\ (z5 /\ ((Plain (bCells g.1.2)) /\ (((0 :
  Int) = (0 : Int)) /\ (((4096 : Int) = (4096 : Int)) /\ (((0 : Int) = (0 : Int)) /\ (((4096 : Int) = (4096 : Int)) /\ (((1 : Int) = (1 : Int)) /\ (((3 : Int) = (3 : Int))
  /\ ((j.4 = IntKind.wrap IntKind.i64 (s.4 - (↑K : Int))) /\ (((65535 : Int) = (65535 : Int)) /\ ((true = true) /\ ((true = true) /\ ((Eq (α := List Value) (bCells j.2) z2)
  /\ ((Plain (bCells j.2)) /\ True)))))))))))))))))))))))))))))))))))))))))))))))))))))))))))))))))) (br (decide ((↑K : Int) > s.4)) (∃ j : SD, ((Inv j) /\ ((m j < m s) /\
  ((0 = 0) /\ (((1 : Int) = (1 : Int)) /\ ((bs g.1.1 = bs g.1.1) /\ ((false = false) /\ ((0 = 0) /\ (((↑j.1 : Int) = IntKind.wrap IntKind.i64 ((↑s.1 : Int) + (↑K : Int))) /\
  ((true = true) /\ (((2 : Int) = (2 : Int)) /\ (((65535 : Int) = (65535 : Int)) /\ (((65536 : Int) = (65536 : Int)) /\ (((4096 : Int) = (4096 : Int)) /\ (((2147483647 :
  Int) = (2147483647 : Int)) /\ ((g.1.4 = g.1.4) /\ (((16384 : Int) = (16384 : Int)) /\ (((2147483647 : Int) = (2147483647 : Int)) /\ ((0 = 0) /\ ((List.length j.2 =
  List.length s.2 + 9) /\ ((0 = 0) /\ ((0 = 0) /\ ((0 = 0) /\ ((j.3 = IntKind.wrap IntKind.i64 (s.3 - (↑K : Int))) /\ (((65535 : Int) = (65535 : Int)) /\ ((0 = 0) /\ ((1 =
  1) /\ (((1 : Int) = (1 : Int)) /\ (((1 : Int) = (1 : Int)) /\ ((true = true) /\ ((false = false) /\ ((false = false) /\ ((false = false) /\ ((false = false) /\ (((0 : Int)
  = (0 : Int)) /\ ((false = false) /\ ((g.1.3 = g.1.3) /\ ((0 = 0) /\ (((16384 : Int) = (16384 : Int)) /\ ((ByteArray.mk #[] = ByteArray.mk #[]) /\ (((0 : Int) = (0 : Int))
  /\ (((0 : Int) = (0 : Int)) /\ (((0 : Int) = (0 : Int)) /\ ((0 = 0) /\ (((4096 : Int) = (4096 : Int)) /\ (((65536 : Int) = (65536 : Int)) /\ ((false = false) /\ ((0 = 0)
  /\ ((false = false) /\ (((0 : Int) = (0 : Int)) /\ ((0 = 0) /\ (z5 /\ ((Plain (bCells g.1.2)) /\ (((0 : Int) = (0 : Int)) /\ (((4096 : Int) = (4096 : Int)) /\ (((0 : Int)
  = (0 : Int)) /\ (((4096 : Int) = (4096 : Int)) /\ (((1 : Int) = (1 : Int)) /\ (((3 : Int) = (3 : Int)) /\ ((j.4 = s.4) /\ (((65535 : Int) = (65535 : Int)) /\ ((true =
  true) /\ ((true = true) /\ ((Eq (α := List Value) (bCells j.2) z2) /\ ((Plain (bCells j.2)) /\ True))))))))))))))))))))))))))))))))))))))))))))))))))))))))))))))))) (∃ j :
  SD, ((Inv j) /\ ((m j < m s) /\ ((0 = 0) /\ (((1 : Int) = (1 : Int)) /\ ((bs g.1.1 = bs g.1.1) /\ ((false = false) /\ ((0 = 0) /\ (((↑j.1 : Int) = IntKind.wrap IntKind.i64
  ((↑s.1 : Int) + (↑K : Int))) /\ ((true = true) /\ (((2 : Int) = (2 : Int)) /\ (((65535 : Int) = (65535 : Int)) /\ (((65536 : Int) = (65536 : Int)) /\ (((4096 : Int) =
  (4096 : Int)) /\ (((2147483647 : Int) = (2147483647 : Int)) /\ ((g.1.4 = g.1.4) /\ (((16384 : Int) = (16384 : Int)) /\ (((2147483647 : Int) = (2147483647 : Int)) /\ ((0 =
  0) /\ ((List.length j.2 = List.length s.2 + 9) /\ ((0 = 0) /\ ((0 = 0) /\ ((0 = 0) /\ ((j.3 = IntKind.wrap IntKind.i64 (s.3 - (↑K : Int))) /\ (((65535 : Int) = (65535 :
  Int)) /\ ((0 = 0) /\ ((1 = 1) /\ (((1 : Int) = (1 : Int)) /\ (((1 : Int) = (1 : Int)) /\ ((true = true) /\ ((false = false) /\ ((false = false) /\ ((false = false) /\
  ((false = false) /\ (((0 : Int) = (0 : Int)) /\ ((false = false) /\ ((g.1.3 = g.1.3) /\ ((0 = 0) /\ (((16384 : Int) = (16384 : Int)) /\ ((ByteArray.mk #[] = ByteArray.mk
  #[]) /\ (((0 : Int) = (0 : Int)) /\ (((0 : Int) = (0 : Int)) /\ (((0 : Int) = (0 : Int)) /\ ((0 = 0) /\ (((4096 : Int) = (4096 : Int)) /\ (((65536 : Int) = (65536 : Int))
  /\ ((false = false) /\ ((0 = 0) /\ ((false = false) /\ (((0 : Int) = (0 : Int)) /\ ((0 = 0) /\ (z5 /\ ((Plain (bCells g.1.2)) /\ (((0 : Int) = (0 : Int)) /\ (((4096 : Int)
  = (4096 : Int)) /\ (((0 : Int) = (0 : Int)) /\ (((4096 : Int) = (4096 : Int)) /\ (((1 : Int) = (1 : Int)) /\ (((3 : Int) = (3 : Int)) /\ ((j.4 = IntKind.wrap IntKind.i64
  (s.4 - (↑K : Int))) /\ (((65535 : Int) = (65535 : Int)) /\ ((true = true) /\ ((true = true) /\ ((Eq (α := List Value) (bCells j.2) z2) /\ ((Plain (bCells j.2)) /\
  True))))))))))))))))))))))))))))))))))))))))))))))))))))))))))))))))))) False) False) False) False) False)) False) False) False)) False)) (((((True /\ (True /\ (True /\
  ((0 + 0 * 1 <= List.length ([] : List Value) /\ Plain (List.take (0 * 1) (List.drop 0 []))) /\ True)))) /\ True) /\ ((True /\ True) /\ (True /\ (IsB (Row.mk [] true
  (Ob.cells true)) 0 /\ true = true))))) /\ (br (decide (List.length s.2 + 9 <= 16777216)) (br z11 (br z4 (br z4 (br (decide ((↑K : Int) > s.3)) (br (decide ((↑K : Int) >
  s.4)) (∃ j : SD, ((Inv j) /\ ((m j < m s) /\ ((0 = 0) /\ (((1 : Int) = (1 : Int)) /\ ((bs g.1.1 = bs g.1.1) /\ ((false = false) /\ ((0 = 0) /\ (((↑j.1 : Int) =
  IntKind.wrap IntKind.i64 ((↑s.1 : Int) + (↑K : Int))) /\ ((true = true) /\ (((2 : Int) = (2 : Int)) /\ (((65535 : Int) = (65535 : Int)) /\ (((65536 : Int) = (65536 : Int))
  /\ (((4096 : Int) = (4096 : Int)) /\ (((2147483647 : Int) = (2147483647 : Int)) /\ ((g.1.4 = g.1.4) /\ (((16384 : Int) = (16384 : Int)) /\ (((2147483647 : Int) =
  (2147483647 : Int)) /\ ((0 = 0) /\ ((List.length j.2 = List.length s.2 + 9) /\ ((0 = 0) /\ ((0 = 0) /\ ((0 = 0) /\ ((j.3 = s.3) /\ (((65535 : Int) = (65535 : Int)) /\ ((0
  = 0) /\ ((1 = 1) /\ (((1 : Int) = (1 : Int)) /\ (((1 : Int) = (1 : Int)) /\ ((true = true) /\ ((false = false) /\ ((false = false) /\ ((false = false) /\ ((false = false)
  /\ (((0 : Int) = (0 : Int)) /\ ((false = false) /\ ((g.1.3 = g.1.3) /\ ((0 = 0) /\ (((16384 : Int) = (16384 : Int)) /\ ((ByteArray.mk #[] = ByteArray.mk #[]) /\ (((0 :
  Int) = (0 : Int)) /\ (((0 : Int) = (0 : Int)) /\ (((0 : Int) = (0 : Int)) /\ ((0 = 0) /\ (((4096 : Int) = (4096 : Int)) /\ (((65536 : Int) = (65536 : Int)) /\ ((false =
  false) /\ ((0 = 0) /\ ((false = false) /\ (((0 : Int) = (0 : Int)) /\ ((0 = 0) /\ (z5 /\ ((Plain (bCells g.1.2)) /\ (((0 : Int) = (0 : Int)) /\ (((4096 : Int) = (4096 :
  Int)) /\ (((0 : Int) = (0 : Int)) /\ (((4096 : Int) = (4096 : Int)) /\ (((1 : Int) = (1 : Int)) /\ (((3 : Int) = (3 : Int)) /\ ((j.4 = s.4) /\ (((65535 : Int) = (65535 :
  Int)) /\ ((true = true) /\ ((true = true) /\ ((Eq (α := List Value) (bCells j.2) z6) /\ ((Plain (bCells j.2)) /\
  True))))))))))))))))))))))))))))))))))))))))))))))))))))))))))))))))) (∃ j : SD, ((Inv j) /\ ((m j < m s) /\ ((0 = 0) /\ (((1 : Int) = (1 : Int)) /\ ((bs g.1.1 = bs g.1.1)
  /\ ((false = false) /\ ((0 = 0) /\ (((↑j.1 : Int) = IntKind.wrap IntKind.i64 ((↑s.1 : Int) + (↑K : Int))) /\ ((true = true) /\ (((2 : Int) = (2 : Int)) /\ (((65535 : Int)
  = (65535 : Int)) /\ (((65536 : Int) = (65536 : Int)) /\ (((4096 : Int) = (4096 : Int)) /\ (((2147483647 : Int) = (2147483647 : Int)) /\ ((g.1.4 = g.1.4) /\ (((16384 : Int)
  = (16384 : Int)) /\ (((2147483647 : Int) = (2147483647 : Int)) /\ ((0 = 0) /\ ((List.length j.2 = List.length s.2 + 9) /\ ((0 = 0) /\ ((0 = 0) /\ ((0 = 0) /\ ((j.3 = s.3)
  /\ (((65535 : Int) = (65535 : Int)) /\ ((0 = 0) /\ ((1 = 1) /\ (((1 : Int) = (1 : Int)) /\ (((1 : Int) = (1 : Int)) /\ ((true = true) /\ ((false = false) /\ ((false =
  false) /\ ((false = false) /\ ((false = false) /\ (((0 : Int) = (0 : Int)) /\ ((false = false) /\ ((g.1.3 = g.1.3) /\ ((0 = 0) /\ (((16384 : Int) = (16384 : Int)) /\
  ((ByteArray.mk #[] = ByteArray.mk #[]) /\ (((0 : Int) = (0 : Int)) /\ (((0 : Int) = (0 : Int)) /\ (((0 : Int) = (0 : Int)) /\ ((0 = 0) /\ (((4096 : Int) = (4096 : Int)) /\
  (((65536 : Int) = (65536 : Int)) /\ ((false = false) /\ ((0 = 0) /\ ((false = false) /\ (((0 : Int) = (0 : Int)) /\ ((0 = 0) /\ (z5 /\ ((Plain (bCells g.1.2)) /\ (((0 :
  Int) = (0 : Int)) /\ (((4096 : Int) = (4096 : Int)) /\ (((0 : Int) = (0 : Int)) /\ (((4096 : Int) = (4096 : Int)) /\ (((1 : Int) = (1 : Int)) /\ (((3 : Int) = (3 : Int))
  /\ ((j.4 = IntKind.wrap IntKind.i64 (s.4 - (↑K : Int))) /\ (((65535 : Int) = (65535 : Int)) /\ ((true = true) /\ ((true = true) /\ ((Eq (α := List Value) (bCells j.2) z6)
  /\ ((Plain (bCells j.2)) /\ True)))))))))))))))))))))))))))))))))))))))))))))))))))))))))))))))))) (br (decide ((↑K : Int) > s.4)) (∃ j : SD, ((Inv j) /\ ((m j < m s) /\
  ((0 = 0) /\ (((1 : Int) = (1 : Int)) /\ ((bs g.1.1 = bs g.1.1) /\ ((false = false) /\ ((0 = 0) /\ (((↑j.1 : Int) = IntKind.wrap IntKind.i64 ((↑s.1 : Int) + (↑K : Int))) /\
  ((true = true) /\ (((2 : Int) = (2 : Int)) /\ (((65535 : Int) = (65535 : Int)) /\ (((65536 : Int) = (65536 : Int)) /\ (((4096 : Int) = (4096 : Int)) /\ (((2147483647 :
  Int) = (2147483647 : Int)) /\ ((g.1.4 = g.1.4) /\ (((16384 : Int) = (16384 : Int)) /\ (((2147483647 : Int) = (2147483647 : Int)) /\ ((0 = 0) /\ ((List.length j.2 =
  List.length s.2 + 9) /\ ((0 = 0) /\ ((0 = 0) /\ ((0 = 0) /\ ((j.3 = IntKind.wrap IntKind.i64 (s.3 - (↑K : Int))) /\ (((65535 : Int) = (65535 : Int)) /\ ((0 = 0) /\ ((1 =
  1) /\ (((1 : Int) = (1 : Int)) /\ (((1 : Int) = (1 : Int)) /\ ((true = true) /\ ((false = false) /\ ((false = false) /\ ((false = false) /\ ((false = false) /\ (((0 : Int)
  = (0 : Int)) /\ ((false = false) /\ ((g.1.3 = g.1.3) /\ ((0 = 0) /\ (((16384 : Int) = (16384 : Int)) /\ ((ByteArray.mk #[] = ByteArray.mk #[]) /\ (((0 : Int) = (0 : Int))
  /\ (((0 : Int) = (0 : Int)) /\ (((0 : Int) = (0 : Int)) /\ ((0 = 0) /\ (((4096 : Int) = (4096 : Int)) /\ (((65536 : Int) = (65536 : Int)) /\ ((false = false) /\ ((0 = 0)
  /\ ((false = false) /\ (((0 : Int) = (0 : Int)) /\ ((0 = 0) /\ (z5 /\ ((Plain (bCells g.1.2)) /\ (((0 : Int) = (0 : Int)) /\ (((4096 : Int) = (4096 : Int)) /\ (((0 : Int)
  = (0 : Int)) /\ (((4096 : Int) = (4096 : Int)) /\ (((1 : Int) = (1 : Int)) /\ (((3 : Int) = (3 : Int)) /\ ((j.4 = s.4) /\ (((65535 : Int) = (65535 : Int)) /\ ((true =
  true) /\ ((true = true) /\ ((Eq (α := List Value) (bCells j.2) z6) /\ ((Plain (bCells j.2)) /\ True))))))))))))))))))))))))))))))))))))))))))))))))))))))))))))))))) (∃ j :
  SD, ((Inv j) /\ ((m j < m s) /\ ((0 = 0) /\ (((1 : Int) = (1 : Int)) /\ ((bs g.1.1 = bs g.1.1) /\ ((false = false) /\ ((0 = 0) /\ (((↑j.1 : Int) = IntKind.wrap IntKind.i64
  ((↑s.1 : Int) + (↑K : Int))) /\ ((true = true) /\ (((2 : Int) = (2 : Int)) /\ (((65535 : Int) = (65535 : Int)) /\ (((65536 : Int) = (65536 : Int)) /\ (((4096 : Int) =
  (4096 : Int)) /\ (((2147483647 : Int) = (2147483647 : Int)) /\ ((g.1.4 = g.1.4) /\ (((16384 : Int) = (16384 : Int)) /\ (((2147483647 : Int) = (2147483647 : Int)) /\ ((0 =
  0) /\ ((List.length j.2 = List.length s.2 + 9) /\ ((0 = 0) /\ ((0 = 0) /\ ((0 = 0) /\ ((j.3 = IntKind.wrap IntKind.i64 (s.3 - (↑K : Int))) /\ (((65535 : Int) = (65535 :
  Int)) /\ ((0 = 0) /\ ((1 = 1) /\ (((1 : Int) = (1 : Int)) /\ (((1 : Int) = (1 : Int)) /\ ((true = true) /\ ((false = false) /\ ((false = false) /\ ((false = false) /\
  ((false = false) /\ (((0 : Int) = (0 : Int)) /\ ((false = false) /\ ((g.1.3 = g.1.3) /\ ((0 = 0) /\ (((16384 : Int) = (16384 : Int)) /\ ((ByteArray.mk #[] = ByteArray.mk
  #[]) /\ (((0 : Int) = (0 : Int)) /\ (((0 : Int) = (0 : Int)) /\ (((0 : Int) = (0 : Int)) /\ ((0 = 0) /\ (((4096 : Int) = (4096 : Int)) /\ (((65536 : Int) = (65536 : Int))
  /\ ((false = false) /\ ((0 = 0) /\ ((false = false) /\ (((0 : Int) = (0 : Int)) /\ ((0 = 0) /\ (z5 /\ ((Plain (bCells g.1.2)) /\ (((0 : Int) = (0 : Int)) /\ (((4096 : Int)
  = (4096 : Int)) /\ (((0 : Int) = (0 : Int)) /\ (((4096 : Int) = (4096 : Int)) /\ (((1 : Int) = (1 : Int)) /\ (((3 : Int) = (3 : Int)) /\ ((j.4 = IntKind.wrap IntKind.i64
  (s.4 - (↑K : Int))) /\ (((65535 : Int) = (65535 : Int)) /\ ((true = true) /\ ((true = true) /\ ((Eq (α := List Value) (bCells j.2) z6) /\ ((Plain (bCells j.2)) /\
  True))))))))))))))))))))))))))))))))))))))))))))))))))))))))))))))))))) False) False) False) False))) False)) False) False)) False) (∃ y : SD, ((y = fin (Prod.fst g)
  (Prod.snd g)) /\ ((0 = 0) /\ ((false = false) /\ ((0 = 0) /\ (((↑y.1 : Int) = (↑s.1 : Int)) /\ ((true = true) /\ (((2 : Int) = (2 : Int)) /\ (((65535 : Int) = (65535 :
  Int)) /\ (((65536 : Int) = (65536 : Int)) /\ (((4096 : Int) = (4096 : Int)) /\ (((2147483647 : Int) = (2147483647 : Int)) /\ ((g.1.4 = g.1.4) /\ (((16384 : Int) = (16384 :
  Int)) /\ (((2147483647 : Int) = (2147483647 : Int)) /\ ((0 = 0) /\ ((List.length y.2 = List.length s.2) /\ ((0 = 0) /\ ((0 = 0) /\ ((0 = 0) /\ ((y.3 = s.3) /\ (((65535 :
  Int) = (65535 : Int)) /\ ((0 = 0) /\ ((1 = 1) /\ (((1 : Int) = (1 : Int)) /\ (((1 : Int) = (1 : Int)) /\ ((true = true) /\ ((false = false) /\ ((false = false) /\ ((false
  = false) /\ ((false = false) /\ (((0 : Int) = (0 : Int)) /\ ((false = false) /\ ((g.1.3 = g.1.3) /\ ((0 = 0) /\ (((16384 : Int) = (16384 : Int)) /\ ((ByteArray.mk #[] =
  ByteArray.mk #[]) /\ (((0 : Int) = (0 : Int)) /\ (((0 : Int) = (0 : Int)) /\ (((0 : Int) = (0 : Int)) /\ ((0 = 0) /\ (((4096 : Int) = (4096 : Int)) /\ (((65536 : Int) =
  (65536 : Int)) /\ ((false = false) /\ ((0 = 0) /\ ((false = false) /\ (((0 : Int) = (0 : Int)) /\ ((0 = 0) /\ (z5 /\ ((Plain (bCells g.1.2)) /\ (((0 : Int) = (0 : Int)) /\
  (((4096 : Int) = (4096 : Int)) /\ (((0 : Int) = (0 : Int)) /\ (((4096 : Int) = (4096 : Int)) /\ (((1 : Int) = (1 : Int)) /\ (((3 : Int) = (3 : Int)) /\ ((y.4 = s.4) /\
  (((65535 : Int) = (65535 : Int)) /\ ((true = true) /\ ((true = true) /\ ((Eq (α := List Value) (bCells y.2) (bCells s.2)) /\ ((Plain (bCells y.2)) /\
  True))))))))))))))))))))))))))))))))))))))))))))))))))))))))))))))) := by kernel_rfl
theorem D_vc (g : GD) (s y : SD) : mcall ED0 mD 60 22 [.pointer (some ⟨0, 0, none⟩), .int .i64 1, .string (bs g.s), .bool false] ⟨mkR (nums 0 [cnD g.v s.W 1 s.q.length, bOwn s.q, cp.rdB 6 g.k 0, unB 7, pkB 8, stD 9, bOwn g.x, tbB, tbB, flD s.N]), 10⟩ (retIsM 10 (.tuple ⟨[.int .i64 (y.sent : Nat), .bool true]⟩) 11 (rlD g y)) =
  (br (strEq (bs g.1) (ByteArray.mk #[])) (((↑y.1 : Int) = (0 : Int)) /\ ((true = true) /\ ((true = true) /\ (((2 : Int) = (2 : Int)) /\ (((65535 : Int) = (65535 : Int)) /\
  (((65536 : Int) = (65536 : Int)) /\ (((4096 : Int) = (4096 : Int)) /\ (((2147483647 : Int) = (2147483647 : Int)) /\ ((g.4 = g.4) /\ (((16384 : Int) = (16384 : Int)) /\
  (((2147483647 : Int) = (2147483647 : Int)) /\ ((0 = 0) /\ ((List.length y.2 = List.length s.2) /\ ((0 = 0) /\ ((0 = 0) /\ ((0 = 0) /\ ((y.3 = s.3) /\ (((65535 : Int) =
  (65535 : Int)) /\ ((0 = 0) /\ ((1 = 1) /\ (((1 : Int) = (1 : Int)) /\ (((1 : Int) = (1 : Int)) /\ ((true = true) /\ ((false = false) /\ ((false = false) /\ ((false =
  false) /\ ((false = false) /\ (((0 : Int) = (0 : Int)) /\ ((false = false) /\ ((g.3 = g.3) /\ ((0 = 0) /\ (((16384 : Int) = (16384 : Int)) /\ ((ByteArray.mk #[] =
  ByteArray.mk #[]) /\ (((0 : Int) = (0 : Int)) /\ (((0 : Int) = (0 : Int)) /\ (((0 : Int) = (0 : Int)) /\ ((0 = 0) /\ (((4096 : Int) = (4096 : Int)) /\ (((65536 : Int) =
  (65536 : Int)) /\ ((false = false) /\ ((0 = 0) /\ ((false = false) /\ (((0 : Int) = (0 : Int)) /\ ((0 = 0) /\ ((Eq (α := List Value) (bCells g.2) (bCells g.2)) /\ ((Plain
  (bCells g.2)) /\ (((0 : Int) = (0 : Int)) /\ (((4096 : Int) = (4096 : Int)) /\ (((0 : Int) = (0 : Int)) /\ (((4096 : Int) = (4096 : Int)) /\ (((1 : Int) = (1 : Int)) /\
  (((3 : Int) = (3 : Int)) /\ ((y.4 = s.4) /\ (((65535 : Int) = (65535 : Int)) /\ ((true = true) /\ ((true = true) /\ ((Eq (α := List Value) (bCells y.2) (bCells s.2)) /\
  ((Plain (bCells y.2)) /\ True)))))))))))))))))))))))))))))))))))))))))))))))))))))))))) (∃ g2 : GD × SD, ((PreD g2) /\ ((0 = 0) /\ (((1 : Int) = (1 : Int)) /\ ((bs g2.1.1
  = bs g.1) /\ ((false = false) /\ ((0 = 0) /\ (((0 : Int) = (0 : Int)) /\ ((true = true) /\ (((2 : Int) = (2 : Int)) /\ (((65535 : Int) = (65535 : Int)) /\ (((65536 : Int)
  = (65536 : Int)) /\ (((4096 : Int) = (4096 : Int)) /\ (((2147483647 : Int) = (2147483647 : Int)) /\ ((g2.1.4 = g.4) /\ (((16384 : Int) = (16384 : Int)) /\ (((2147483647 :
  Int) = (2147483647 : Int)) /\ ((0 = 0) /\ ((List.length g2.2.2 = List.length s.2) /\ ((0 = 0) /\ ((0 = 0) /\ ((0 = 0) /\ ((g2.2.3 = s.3) /\ (((65535 : Int) = (65535 :
  Int)) /\ ((0 = 0) /\ ((1 = 1) /\ (((1 : Int) = (1 : Int)) /\ (((1 : Int) = (1 : Int)) /\ ((true = true) /\ ((false = false) /\ ((false = false) /\ ((false = false) /\
  ((false = false) /\ (((0 : Int) = (0 : Int)) /\ ((false = false) /\ ((g2.1.3 = g.3) /\ ((0 = 0) /\ (((16384 : Int) = (16384 : Int)) /\ ((ByteArray.mk #[] = ByteArray.mk
  #[]) /\ (((0 : Int) = (0 : Int)) /\ (((0 : Int) = (0 : Int)) /\ (((0 : Int) = (0 : Int)) /\ ((0 = 0) /\ (((4096 : Int) = (4096 : Int)) /\ (((65536 : Int) = (65536 : Int))
  /\ ((false = false) /\ ((0 = 0) /\ ((false = false) /\ (((0 : Int) = (0 : Int)) /\ ((0 = 0) /\ ((Eq (α := List Value) (bCells g2.1.2) (bCells g.2)) /\ ((Plain (bCells
  g2.1.2)) /\ (((0 : Int) = (0 : Int)) /\ (((4096 : Int) = (4096 : Int)) /\ (((0 : Int) = (0 : Int)) /\ (((4096 : Int) = (4096 : Int)) /\ (((1 : Int) = (1 : Int)) /\ (((3 :
  Int) = (3 : Int)) /\ ((g2.2.4 = s.4) /\ (((65535 : Int) = (65535 : Int)) /\ ((true = true) /\ ((true = true) /\ ((Eq (α := List Value) (bCells g2.2.2) (bCells s.2)) /\
  ((Plain (bCells g2.2.2)) /\ (∀ (side : Bool), (br (side) (∀ (y2 : SD), ((y2 = fin (Prod.fst g2) (Prod.snd g2)) → (((↑y.1 : Int) = (↑y2.1 : Int)) /\ ((true = true) /\
  ((true = true) /\ (((2 : Int) = (2 : Int)) /\ (((65535 : Int) = (65535 : Int)) /\ (((65536 : Int) = (65536 : Int)) /\ (((4096 : Int) = (4096 : Int)) /\ (((2147483647 :
  Int) = (2147483647 : Int)) /\ ((g.4 = g2.1.4) /\ (((16384 : Int) = (16384 : Int)) /\ (((2147483647 : Int) = (2147483647 : Int)) /\ ((0 = 0) /\ ((List.length y.2 =
  List.length y2.2) /\ ((0 = 0) /\ ((0 = 0) /\ ((0 = 0) /\ ((y.3 = y2.3) /\ (((65535 : Int) = (65535 : Int)) /\ ((0 = 0) /\ ((1 = 1) /\ (((1 : Int) = (1 : Int)) /\ (((1 :
  Int) = (1 : Int)) /\ ((true = true) /\ ((false = false) /\ ((false = false) /\ ((false = false) /\ ((false = false) /\ (((0 : Int) = (0 : Int)) /\ ((false = false) /\
  ((g.3 = g2.1.3) /\ ((0 = 0) /\ (((16384 : Int) = (16384 : Int)) /\ ((ByteArray.mk #[] = ByteArray.mk #[]) /\ (((0 : Int) = (0 : Int)) /\ (((0 : Int) = (0 : Int)) /\ (((0 :
  Int) = (0 : Int)) /\ ((0 = 0) /\ (((4096 : Int) = (4096 : Int)) /\ (((65536 : Int) = (65536 : Int)) /\ ((false = false) /\ ((0 = 0) /\ ((false = false) /\ (((0 : Int) = (0
  : Int)) /\ ((0 = 0) /\ ((Eq (α := List Value) (bCells g.2) (bCells g2.1.2)) /\ ((Plain (bCells g.2)) /\ (((0 : Int) = (0 : Int)) /\ (((4096 : Int) = (4096 : Int)) /\ (((0
  : Int) = (0 : Int)) /\ (((4096 : Int) = (4096 : Int)) /\ (((1 : Int) = (1 : Int)) /\ (((3 : Int) = (3 : Int)) /\ ((y.4 = y2.4) /\ (((65535 : Int) = (65535 : Int)) /\
  ((true = true) /\ ((true = true) /\ ((Eq (α := List Value) (bCells y.2) (bCells y2.2)) /\ ((Plain (bCells y.2)) /\
  True)))))))))))))))))))))))))))))))))))))))))))))))))))))))))))) (∀ (y2 : SD), ((y2 = fin (Prod.fst g2) (Prod.snd g2)) → (((↑y.1 : Int) = (↑y2.1 : Int)) /\ ((true = true)
  /\ ((true = true) /\ (((2 : Int) = (2 : Int)) /\ (((65535 : Int) = (65535 : Int)) /\ (((65536 : Int) = (65536 : Int)) /\ (((4096 : Int) = (4096 : Int)) /\ (((2147483647 :
  Int) = (2147483647 : Int)) /\ ((g.4 = g2.1.4) /\ (((16384 : Int) = (16384 : Int)) /\ (((2147483647 : Int) = (2147483647 : Int)) /\ ((0 = 0) /\ ((List.length y.2 =
  List.length y2.2) /\ ((0 = 0) /\ ((0 = 0) /\ ((0 = 0) /\ ((y.3 = y2.3) /\ (((65535 : Int) = (65535 : Int)) /\ ((0 = 0) /\ ((1 = 1) /\ (((1 : Int) = (1 : Int)) /\ (((1 :
  Int) = (1 : Int)) /\ ((true = true) /\ ((false = false) /\ ((false = false) /\ ((false = false) /\ ((false = false) /\ (((0 : Int) = (0 : Int)) /\ ((false = false) /\
  ((g.3 = g2.1.3) /\ ((0 = 0) /\ (((16384 : Int) = (16384 : Int)) /\ ((ByteArray.mk #[] = ByteArray.mk #[]) /\ (((0 : Int) = (0 : Int)) /\ (((0 : Int) = (0 : Int)) /\ (((0 :
  Int) = (0 : Int)) /\ ((0 = 0) /\ (((4096 : Int) = (4096 : Int)) /\ (((65536 : Int) = (65536 : Int)) /\ ((false = false) /\ ((0 = 0) /\ ((false = false) /\ (((0 : Int) = (0
  : Int)) /\ ((0 = 0) /\ ((Eq (α := List Value) (bCells g.2) (bCells g2.1.2)) /\ ((Plain (bCells g.2)) /\ (((0 : Int) = (0 : Int)) /\ (((4096 : Int) = (4096 : Int)) /\ (((0
  : Int) = (0 : Int)) /\ (((4096 : Int) = (4096 : Int)) /\ (((1 : Int) = (1 : Int)) /\ (((3 : Int) = (3 : Int)) /\ ((y.4 = y2.4) /\ (((65535 : Int) = (65535 : Int)) /\
  ((true = true) /\ ((true = true) /\ ((Eq (α := List Value) (bCells y.2) (bCells y2.2)) /\ ((Plain (bCells y.2)) /\
  True))))))))))))))))))))))))))))))))))))))))))))))))))))))))))))))))))))))))))))))))))))))))))))))))))))))))))))))))))))))))))))))) := by kernel_rfl
theorem cL0 (x y : Int) : cellI [.int .i64 x, .int .i64 y] 0 = x := rfl
theorem cL1 (x y : Int) : cellI [.int .i64 x, .int .i64 y] 1 = y := rfl
theorem pL (x y : Int) : Plain [.int .i64 x, .int .i64 y] := by
  intro v hv
  simp only [List.mem_cons, List.not_mem_nil, or_false] at hv
  rcases hv with rfl | rfl <;> rfl
theorem Ls_con (n x y : Int) : Con Tryz.prog 54 [.int .i64 n, .slice (some ⟨0, 0, none⟩) 2 1] [⟨[.int .i64 x, .int .i64 y], true, .cells true⟩] (.int .i64 (lsV n x y)) [⟨[.int .i64 x, .int .i64 y], true, .cells true⟩] := by
  refine con_vc (E := tk.E0) tk.mixed (calls_envN _) (lok_envN _) (M := noM) lm_none (Ls_vc n x y _) ?_
  simp only [ofNat_eq, toNat_cast, Nat.zero_add, Nat.add_zero, Nat.mul_one, List.drop_zero, bCells_len, bCells_drop, bCells_take, bCells_app, bCells_one, bCells_plain, List.length_replicate, List.length_append, List.length_take, List.length_drop, List.take_length, and_true, true_and, and_self, decide_true, List.length_nil, List.length_cons, Nat.sub_zero, dB_mk, dB_ro, List.take_zero, cL0, cL1, pL]
  unfold lsV
  simp only [Int.max_def, Int.min_def]
  repeat' split
  all_goals omega
theorem eLs_ok (K : Nat) : EntOk Tryz.prog (eLs K) := entC_ok (by
  intro a rows p v news h hp
  split at h <;> simp only [Option.some.injEq, Prod.mk.injEq, reduceCtorEq] at h
  obtain ⟨rfl, rfl, rfl⟩ := h
  obtain ⟨h1, rfl⟩ := hp
  rename_i n x y
  rw [← h1, List.append_nil]
  exact Ls_con n x y)
theorem tD_ok (K : Nat) : ∀ x ∈ tD K, EntOk Tryz.prog x := all_cons eRigT_ok (all_cons (eLs_ok K) all_nil)
def InvD (g : GD × SD) (s : SD) : Prop := s = g.2 ∨ (1 ≤ dm g.1.s.length g.2.N ∧ s = fin g.1 g.2)
theorem veq_slr (k z o n : Nat) : veq (k + 1) (.slice (some ⟨z, o, none⟩) n 1) (.slice (some ⟨z, o, none⟩) n 1) = true := by simp [veq]
theorem bsd (l : List UInt8) : (bs l).data.toList = l := Eq.trans rfl rfl
theorem subb (l : List UInt8) (a b : Nat) : sub (bs l) a b = bs ((l.drop a).take (b - a)) := Eq.trans rfl rfl
theorem mapv (l : List UInt8) : List.map (fun b : UInt8 => Value.int .u8 (b.toNat : Int)) l = bCells l := rfl
theorem veq_fr (n r k : Nat) : veq (n + 2) (.agg ⟨[.int .i64 0, .int .i64 0, .int .i64 1, .slice (some ⟨r, 0, none⟩) k 1]⟩) (.agg ⟨[.int .i64 0, .int .i64 0, .int .i64 1, .slice (some ⟨r, 0, none⟩) k 1]⟩) = true := by simp [veq]
theorem row_h0 (p : List UInt8) : List.take (9 + p.length) (Value.int .u8 (IntKind.u8.wrap (ishr .i64 (p.length : Int) 16)) :: Value.int .u8 (IntKind.u8.wrap (ishr .i64 (p.length : Int) 8)) :: Value.int .u8 (IntKind.u8.wrap (p.length : Int)) :: Value.int .u8 0 :: Value.int .u8 0 :: Value.int .u8 0 :: Value.int .u8 0 :: Value.int .u8 0 :: Value.int .u8 1 :: ([] ++ bCells p)) = bCells (headB p.length 0 0 1 ++ p) := by
  have e : (Value.int .u8 (IntKind.u8.wrap (ishr .i64 (p.length : Int) 16)) :: Value.int .u8 (IntKind.u8.wrap (ishr .i64 (p.length : Int) 8)) :: Value.int .u8 (IntKind.u8.wrap (p.length : Int)) :: Value.int .u8 0 :: Value.int .u8 0 :: Value.int .u8 0 :: Value.int .u8 0 :: Value.int .u8 0 :: Value.int .u8 1 :: ([] ++ bCells p)) = bCells (headB p.length 0 0 1 ++ p) := by
    rw [← bCells_app, ← headC, by8_v, by8_v, by8_v]
    rfl
  rw [e, List.take_of_length_le (by rw [bCells_len, List.length_append, head_len]; exact Nat.le_refl _)]
theorem fin_0 (g : GD) (s : SD) (h : s.sent = 0) (hd : dm g.s.length s.N = 0) : s = fin g s := by
  unfold fin finq
  rw [hd]
  obtain ⟨a, b, c, d⟩ := s
  simp only at h
  subst h
  simp
noncomputable def kD (g : GD × SD) (s : SD) : Nat := (lsV ((g.1.s.length : Int) - (s.sent : Int)) s.W s.N).toNat
theorem D_rok (g : GD × SD) (s : SD) (hg : PreD g) (hi : InvD g s) : mev (ED (kD g s)) noM 60 22 (0 :: pD) false (codeOf Tryz.prog 22 (0 :: pD)) ⟨mkOv (slD g.1 s.sent), 122, []⟩ none ⟨mkR (rlD g.1 s), 11⟩ (roundK 10 11 122 (InvD g) (fun s => g.1.s.length - s.sent) (fun s : SD => slD g.1 s.sent) (fun s => rlD g.1 s) (wsD g) s) := by
  have hD := D_round g s (kD g s) (InvD g) (fun s => g.1.s.length - s.sent)
  refine Eq.mpr hD ?_
  clear hD
  obtain ⟨g1, g2, g3, g4, g5, g6, g7, g8⟩ := hg
  have hm : dm g.1.s.length g.2.N ≤ g.1.s.length := Nat.min_le_left _ _
  have hmN : dm g.1.s.length g.2.N ≤ g.2.N.toNat := Nat.min_le_right _ _
  have hs : s.sent ≤ g.1.s.length ∧ (g.1.s.length : Int) - s.sent ≤ s.W ∧ 0 ≤ s.N ∧ s.q.length ≤ 109000 := by
    rcases hi with rfl | ⟨h1, rfl⟩
    · exact ⟨by omega, by omega, g6, by omega⟩
    · refine ⟨hm, by simp only [fin]; omega, by simp only [fin]; omega, ?_⟩
      simp only [fin, finq]
      split
      · omega
      · rw [List.length_append, List.length_append, List.length_take, head_len]; omega
  obtain ⟨s1, s2, s3, s4⟩ := hs
  generalize hK : kD g s = K
  have hK0 : lsV ((g.1.s.length : Int) - (s.sent : Int)) s.W s.N = (K : Int) := by
    rw [← hK]; unfold kD lsV; omega
  have e1 : IntKind.i64.wrap (131072 - (s.q.length : Int)) = 131072 - (s.q.length : Int) := wr64_id (by unfold I64; omega)
  have e2 : IntKind.i64.wrap ((g.1.s.length : Int) - (s.sent : Int)) = (g.1.s.length : Int) - (s.sent : Int) := wr64_id (by unfold I64; omega)
  have i1 : ((16384 : Int) < (g.1.s.length : Int) - (s.sent : Int)) = False := eq_false (by omega)
  have i2 : (131072 - (s.q.length : Int) < (g.1.s.length : Int) - (s.sent : Int)) = False := eq_false (by omega)
  have hKl : K ≤ g.1.s.length - s.sent := by unfold lsV at hK0; omega
  have e3 : IntKind.i64.wrap ((s.sent : Int) + (K : Int)) = ((s.sent + K : Nat) : Int) := by rw [wr64_id (by unfold I64; omega)]; omega
  have e4 : ((g.1.s.drop s.sent).take (s.sent + K - s.sent)).length = K := by rw [List.length_take, List.length_drop]; omega
  have e5 : IntKind.i64.wrap (9 + (K : Int)) = ((9 + K : Nat) : Int) := by rw [wr64_id (by unfold I64; omega)]; omega
  simp only [ofNat_eq, bsd, subb, mapv, e1, e2, i1, i2, if_false, hK0, e3, Int.toNat_natCast, e4, e5]
  simp only [ofNat_eq, toNat_cast, Nat.zero_add, Nat.add_zero, Nat.mul_one, List.drop_zero, bCells_len, bCells_drop, bCells_take, bCells_app, bCells_one, bCells_plain, List.length_replicate, List.length_append, List.length_take, List.length_drop, List.take_length, and_true, true_and, and_self, decide_true, List.length_nil, List.length_cons, Nat.sub_zero, dB_mk, dB_ro, List.take_zero, veq_slr, veq_ag1, veq_int, Int.toNat_natCast, e4, e5, pL]
  generalize hP : List.take (s.sent + K - s.sent) (List.drop s.sent g.1.s) = P at e4 ⊢
  have hPK : List.take K P = P := List.take_of_length_le (by omega)
  have hrow := row_h0 P
  rw [e4] at hrow
  have hIP : IsB ⟨bCells P, true, .cells true⟩ K := isB_mk _ _ e4.symm
  have hA : K = 0 → s = fin g.1 g.2 := by
    intro h0
    rcases hi with rfl | ⟨_, rfl⟩
    · have d0 : dm g.1.s.length g.2.N = 0 := by unfold lsV at hK0; unfold dm; omega
      exact fin_0 _ _ g1 d0
    · rfl
  have hB : 1 ≤ K → s = g.2 ∧ dm g.1.s.length g.2.N = K := by
    intro h1
    rcases hi with rfl | ⟨_, rfl⟩
    · exact ⟨rfl, by unfold lsV at hK0; unfold dm; omega⟩
    · exfalso
      simp only [fin] at hK0 s1
      unfold lsV at hK0
      unfold dm at hK0 s1
      omega
  have hC : ¬ s.sent < g.1.s.length → s = fin g.1 g.2 := by
    intro h1
    rcases hi with rfl | ⟨_, rfl⟩
    · omega
    · rfl
  have hone : allOne (bCells (headB K 0 0 1 ++ P)) = true := bCells_one _
  have hRK : rightB 0 0 1 K = true := by unfold rightB; exact decide_eq_true (by omega)
  have e6 : IntKind.i64.wrap (s.W - (K : Int)) = s.W - (K : Int) := wr64_id (by unfold I64; unfold lsV at hK0; rcases hi with rfl | ⟨_, rfl⟩ <;> (try simp only [fin]) <;> omega)
  have e7 : IntKind.i64.wrap (s.N - (K : Int)) = s.N - (K : Int) := wr64_id (by unfold I64; rcases hi with rfl | ⟨_, rfl⟩ <;> (try simp only [fin]) <;> omega)
  have kW : (K : Int) ≤ s.W := by unfold lsV at hK0; omega
  have kN : (K : Int) ≤ s.N := by unfold lsV at hK0; omega
  simp only [hPK, hrow, hIP, veq_fr, hone, hRK, e6, e7]
  refine br_if (fun hl => br_b rfl ⟨Nat.le_refl _, br_b rfl (br_b rfl (br_if (fun h1 => ⟨s, hA (by omega), rfl, rfl, rfl, rfl, rfl⟩) (fun h1 => ?_)))⟩) (fun hl => ⟨s, hC (by omega), rfl, rfl, rfl, rfl, rfl⟩)
  obtain ⟨hs, hd⟩ := hB (by omega)
  have hfs : (fin g.1 g.2).sent = s.sent + K := by rw [hs, g1]; simp only [fin, hd, Nat.zero_add]
  have hfq : (fin g.1 g.2).q = s.q ++ (headB K 0 0 1 ++ P) := by
    rw [← hP, hs, g1]; simp only [fin, hd, finq]
    rw [if_neg (by omega), List.drop_zero, Nat.zero_add, Nat.sub_zero]
  have hfW : (fin g.1 g.2).W = s.W - (K : Int) := by rw [hs]; simp only [fin, hd]
  have hfN : (fin g.1 g.2).N = s.N - (K : Int) := by rw [hs]; simp only [fin, hd]
  have leaf : ∃ j, InvD g j ∧ g.1.s.length - j.sent < g.1.s.length - s.sent ∧ (j.sent : Int) = ((s.sent + K : Nat) : Int) ∧ j.q.length = s.q.length + (9 + K) ∧ j.W = s.W - (K : Int) ∧ j.N = s.N - (K : Int) ∧ bCells j.q = bCells s.q ++ bCells (headB K 0 0 1 ++ P) :=
    ⟨fin g.1 g.2, .inr ⟨by omega, rfl⟩, by rw [hfs]; omega, by rw [hfs], by rw [hfq, List.length_append, List.length_append, head_len, e4], hfW, hfN, by rw [hfq, bCells_app]⟩
  repeat first
    | exact leaf
    | refine br_b rfl ?_
    | refine br_dec (by omega) ?_
    | refine br_nd (by omega) ?_
    | refine And.intro ⟨Nat.le_refl _, trivial, trivial⟩ ?_
    | refine And.intro ⟨Nat.le_refl _, trivial⟩ ?_
    | refine And.intro (by omega) ?_
theorem D_piece : PieceOk (ED 0) 10 (22, pD, specD) := by
  intro fn c0 c hf hb hc fr u h K hs
  obtain ⟨body, rfl, hbody⟩ := loop_of (P := Tryz.prog) (f := 22) (p := pD) (by kernel_rfl) hf hb hc
  refine specOf_okM (fun g K hp hK => ?_) hs
  have hL := loop_okM (E := ED 0) (n0 := 10) (fun s => slD g.1 s.sent) (fun s => rlD g.1 s) (InvD g) (fun s => g.1.s.length - s.sent) hK (fun i hi => okM_of_mev (E := ED (kD g i)) (n0 := 10) tk.mixed (cut_calls (calls_envTc (tD_ok _))) cut_lok lm_none hf hb hbody (D_rok g i hp hi)) _ g.2 (Nat.le_refl _) (.inl rfl) false
  simp only [hp.1] at hL
  exact hL
def PreD0 (g : GD) (s : SD) : Prop := s.sent = 0 ∧ g.s.length ≤ 8000 ∧ (g.s.length : Int) ≤ s.W ∧ s.W ≤ 65535 ∧ 0 ≤ s.N ∧ s.N ≤ 100000 ∧ s.q.length ≤ 100000
set_option maxRecDepth 400000 in
theorem D_con (g : GD) (s : SD) (hg : PreD0 g s) : ConM Tryz.prog 22 [.pointer (some ⟨0, 0, none⟩), .int .i64 1, .string (bs g.s), .bool false] [cnD g.v s.W 1 s.q.length, bOwn s.q, cp.rdB 6 g.k 0, unB 7, pkB 8, stD 9, bOwn g.x, tbB, tbB, flD s.N] (.tuple ⟨[.int .i64 ((fin g s).sent : Nat), .bool true]⟩) 11 (rlD g (fin g s)) := by
  refine conM_vc (E := ED0) tk.mixed (cut_calls (calls_envTc all_nil)) cut_lok (M := mD) (lm_one D_piece) (D_vc g s (fin g s)) ?_
  obtain ⟨h1, h2, h3, h4, h5, h6, h7⟩ := hg
  simp only [ofNat_eq, toNat_cast, Nat.zero_add, Nat.add_zero, Nat.mul_one, List.drop_zero, bCells_len, bCells_drop, bCells_take, bCells_app, bCells_one, bCells_plain, List.length_replicate, List.length_append, List.length_take, List.length_drop, List.take_length, and_true, true_and, and_self, decide_true, List.length_nil, List.length_cons, Nat.sub_zero, dB_mk, dB_ro, List.take_zero, Int.toNat_natCast, bsd]
  refine br_intro (fun hn => ?_) (fun hn => ?_)
  · have hn : g.s = [] := by
      rw [bs_nil, strEq_bs] at hn
      exact of_decide_eq_true hn
    have e := fin_0 g s h1 (by unfold dm; rw [hn]; simp)
    rw [← e]
    exact ⟨by rw [h1]; rfl, rfl, rfl, rfl, rfl⟩
  · have hn : 1 ≤ g.s.length := by
      cases hgs : g.s with
      | nil => rw [hgs, bs_nil, strEq_bs] at hn; exact absurd hn (by simp)
      | cons a l => simp
    refine ⟨(g, s), ⟨h1, hn, h2, h3, h4, h5, h6, h7⟩, rfl, rfl, rfl, rfl, rfl, rfl, rfl, rfl, fun side => br_side (fun y hy => ?_) (fun y hy => ?_) side⟩ <;> (rw [hy]; exact ⟨rfl, rfl, rfl, rfl, rfl, rfl, rfl, rfl⟩)
def OkL (r : Row) : Prop := ∃ x : List UInt8, r = bOwn x
noncomputable def mR : Int → ByteArray → Nat := sealV fun N t => dm t.data.toList.length N
noncomputable def qR : Row → Int → ByteArray → List UInt8 := sealV fun r N t => finq (dB r) t.data.toList (dm t.data.toList.length N)
def IsQ (r : Row) (n : Nat) : Prop := ∃ q : List UInt8, r = bOwn q ∧ n = q.length ∧ q.length ≤ 100000
def OkT (t : ByteArray) (W N : Int) : Prop := ∃ l : List UInt8, t = bs l ∧ l.length ≤ 8000 ∧ (l.length : Int) ≤ W ∧ W ≤ 65535 ∧ 0 ≤ N ∧ N ≤ 100000
noncomputable def eData : EntM := (22, fun a r => match a, r with
  | [.pointer (some ⟨0, 0, none⟩), .int .i64 id, .string t, .bool e], [r0, r1, ⟨[.slice (some ⟨6, j, none⟩) n5 1, .int .i64 m2, .string t2, .int .i64 s2, .int .i64 c2, .int .i64 b2], false, .cells false⟩, r3, r4, r5, r6, r7, r8, ⟨[.int .i64 i9, .int .i64 st9, .int .i64 N, .int .i64 rc9, .bool x9, .bool y9], false, .cells false⟩] => (match r0 with
    | ⟨.bool _ :: .int .i64 _ :: .int .i64 _ :: .int .i64 _ :: .int .i64 _ :: .int .i64 _ :: .int .i64 v :: .int .i64 _ :: .int .i64 _ :: .slice (some ⟨1, 0, none⟩) qn 1 :: .pointer _ :: .pointer _ :: .pointer _ :: .int .i64 W :: _, false, .cells false⟩ =>
      some (id = 1 ∧ e = false ∧ r0 = cnD v W 1 qn ∧ IsQ r1 qn ∧ (n5 = 0 ∧ m2 = 16384 ∧ t2 = ⟨#[]⟩ ∧ s2 = 0 ∧ c2 = 0 ∧ b2 = 0) ∧ r3 = unB 7 ∧ r4 = pkB 8 ∧ r5 = stD 9 ∧ OkL r6 ∧ r7 = tbB ∧ r8 = tbB ∧ (i9 = 1 ∧ st9 = 3 ∧ rc9 = 65535 ∧ x9 = true ∧ y9 = true) ∧ OkT t W N,
        .tuple ⟨[.int .i64 (mR N t : Nat), .bool true]⟩, 11, [(0, cnD v (W - (mR N t : Nat)) 10 (qR r1 N t).length), (2, cp.rdB 6 j 0), (3, unB 7), (4, pkB 8), (5, stD 9), (6, r6), (7, tbB), (8, tbB), (9, flD (N - (mR N t : Nat))), (10, bOwn (qR r1 N t))])
    | _ => none)
  | _, _ => none)
theorem eData_ok : EntOk Tryz.prog eData := by
  intro a rows p v n' rl h hp
  unfold eData at h
  simp only at h
  split at h
  · split at h
    · simp only [Option.some.injEq, Prod.mk.injEq] at h
      obtain ⟨rfl, rfl, rfl, rfl⟩ := h
      obtain ⟨rfl, rfl, e0, ⟨q, rfl, rfl, hq⟩, ⟨rfl, rfl, rfl, rfl, rfl, rfl⟩, rfl, rfl, rfl, ⟨y, rfl⟩, rfl, rfl, ⟨rfl, rfl, rfl, rfl, rfl⟩, ⟨l, rfl, hl, h1, h2, h3, h4⟩⟩ := hp
      rw [e0]
      unfold mR qR; rw [sealV_eq, sealV_eq]
      simp only [dB_own, bsd]
      exact D_con ⟨l, y, _, _⟩ ⟨0, q, _, _⟩ ⟨rfl, hl, h1, h2, h3, h4, hq⟩
    · simp at h
  · simp at h
end Go.Proofs.YtcallecdjebojaaGreat.cw
