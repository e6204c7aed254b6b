/- ConnShuts: behind its end nothing happens any more. -/
import Derived.Test.YtcallecdjebojaaGreatSz9
import Derived.Test.YtcallecdjebojaaGreatRows
import Derived.Test.YtcallecdjebojaaGreatLcsR
set_option maxRecDepth 20000
set_option linter.unusedSimpArgs false
set_option linter.unusedVariables false
namespace Go.Proofs.YtcallecdjebojaaGreat.cs
open Go Go.Ev Go.Sy Go.RowKit Go.Proofs.YtcallecdjebojaaGreat.gl Go.Proofs.YtcallecdjebojaaGreat.tk Go.Proofs.YtcallecdjebojaaGreat.ic
noncomputable def tCs : List EntM := [eRunsC, eLi]
noncomputable abbrev ECs : Env := envTc Tryz.prog tCs
structure Ax where
  a : Int
  b : Int
  c : Int
  d : Int
  e : Int
  f : Int
  p : List UInt8
  q : List UInt8
  r : List Rx
  t : ByteArray
  k : Bool
noncomputable def enA (x : Ax) : List Value := [.int .i64 x.a, .int .i64 x.b, .int .i64 x.c, .int .i64 x.d, .int .i64 x.e, .int .i64 x.f, .slice (some ⟨gCode (bCells x.p), 0, some 0⟩) x.p.length 1, .slice (some ⟨gCode (bCells x.q), 0, some 0⟩) x.q.length 1, .slice (some ⟨gCode (gC enX x.r), 0, some 0⟩) x.r.length 3, .string x.t, .bool x.k]
structure GS where
  l : List Ax
  kk : Int
  a : Int
  b : Int
  c : Int
  d : Int
def pS : List Nat := [0, 1, 0, 1, 1, 1, 1, 1, 1, 1]
def cnR : Row := ⟨[.bool true, .int .i64 2, .int .i64 65535, .int .i64 65536, .int .i64 4096, .int .i64 2147483647, .int .i64 65535, .int .i64 16384, .int .i64 2147483647, .slice (some ⟨2, 0, none⟩) 17 1, .pointer (some ⟨3, 0, none⟩), .pointer (some ⟨4, 0, none⟩), .pointer (some ⟨5, 0, none⟩), .int .i64 65535, .int .i64 65535, .slice none 0 0, .slice none 0 0, .int .i64 5, .int .i64 1, .bool true, .bool false, .bool true, .bool false, .bool false, .int .i64 0, .slice none 0 0, .bool false, .slice none 0 0], false, .cells false⟩
def quR (a b c d : Int) : Row := ⟨[.int .u8 0, .int .u8 0, .int .u8 8, .int .u8 7, .int .u8 0, .int .u8 0, .int .u8 0, .int .u8 0, .int .u8 0, .int .u8 0, .int .u8 0, .int .u8 0, .int .u8 5, .int .u8 a, .int .u8 b, .int .u8 c, .int .u8 d], false, .cells true⟩
def slS (g : GS) (i : Nat) : List (Nat × Value) := [(1, .slice (some ⟨0, 0, none⟩) g.l.length 11), (5, .pointer (some ⟨1, 0, none⟩)), (6, .int .i64 g.kk), (7, .int .i64 17), (8, .int .i64 (i : Nat))]
noncomputable def rlS (g : GS) : List (Nat × Row) := [(0, gRo enA g.l), (1, cnR), (2, quR g.a g.b g.c g.d)]
noncomputable def wsS (g : GS) : List (Gate Unit) := [⟨.exit 0, fun _ => True, fun _ => [(5, .pointer (some ⟨1, 0, none⟩)), (6, .int .i64 g.kk), (7, .int .i64 17)], fun _ => rlS g, 6⟩]
def OkX (x : Ax) : Prop := x.r.length ≤ maxLen
noncomputable def specS : Sy.Spec := specOf 1 6 108 (fun g : GS => g.l.length ≤ maxLen ∧ ∀ x ∈ g.l, OkX x) (fun g => slS g 0) rlS wsS
noncomputable def mS := mOf [(11, pS, specS)]
theorem S_round (g : GS) (i : Nat) (Inv : Nat → Prop) (m : Nat → Nat) : mev ECs noM 60 11 (0 :: pS) false (codeOf Tryz.prog 11 (0 :: pS)) ⟨mkOv (slS g i), 108, []⟩ none ⟨mkR (rlS g), 6⟩ (roundK 1 6 108 Inv m (fun i => slS g i) (fun _ => rlS g) (wsS g) i) =
  (br (decide ((↑i : Int) < Int.ofNat (List.length g.1))) (br (decide ((↑i : Int) < (20 : Int))) (br (decide ((0 : Int) <= (↑i : Int) /\ (↑i : Int) < (↑(List.length g.1) :
  Int))) ((Eq (α := Option Value) ((gC enA g.1)[0 + Int.toNat (↑i : Int) * 11]?) (some (Value.int IntKind.i64 (cellI (gC enA g.1) (0 + Int.toNat (↑i : Int) * 11))))) /\ ((Eq
  (α := Option Value) ((gC enA g.1)[0 + Int.toNat (↑i : Int) * 11 + 1]?) (some (Value.int IntKind.i64 (cellI (gC enA g.1) (0 + Int.toNat (↑i : Int) * 11 + 1))))) /\ ((Eq (α
  := Option Value) ((gC enA g.1)[0 + Int.toNat (↑i : Int) * 11 + 1 + 1]?) (some (Value.int IntKind.i64 (cellI (gC enA g.1) (0 + Int.toNat (↑i : Int) * 11 + 1 + 1))))) /\
  ((Eq (α := Option Value) ((gC enA g.1)[0 + Int.toNat (↑i : Int) * 11 + 1 + 1 + 1]?) (some (Value.int IntKind.i64 (cellI (gC enA g.1) (0 + Int.toNat (↑i : Int) * 11 + 1 + 1
  + 1))))) /\ ((Eq (α := Option Value) ((gC enA g.1)[0 + Int.toNat (↑i : Int) * 11 + 1 + 1 + 1 + 1]?) (some (Value.int IntKind.i64 (cellI (gC enA g.1) (0 + Int.toNat (↑i :
  Int) * 11 + 1 + 1 + 1 + 1))))) /\ ((Eq (α := Option Value) ((gC enA g.1)[0 + Int.toNat (↑i : Int) * 11 + 1 + 1 + 1 + 1 + 1]?) (some (Value.int IntKind.i64 (cellI (gC enA
  g.1) (0 + Int.toNat (↑i : Int) * 11 + 1 + 1 + 1 + 1 + 1))))) /\ ((Eq (α := Option Value) ((gC enA g.1)[0 + Int.toNat (↑i : Int) * 11 + 1 + 1 + 1 + 1 + 1 + 1]?) (some
  (Value.slice (some (Addr.mk (cellZ (gC enA g.1) (0 + Int.toNat (↑i : Int) * 11 + 1 + 1 + 1 + 1 + 1 + 1)) (cellO (gC enA g.1) (0 + Int.toNat (↑i : Int) * 11 + 1 + 1 + 1 + 1
  + 1 + 1)) (some 0))) (cellN (gC enA g.1) (0 + Int.toNat (↑i : Int) * 11 + 1 + 1 + 1 + 1 + 1 + 1)) 1))) /\ ((Eq (α := Option Value) ((gC enA g.1)[0 + Int.toNat (↑i : Int) *
  11 + 1 + 1 + 1 + 1 + 1 + 1 + 1]?) (some (Value.slice (some (Addr.mk (cellZ (gC enA g.1) (0 + Int.toNat (↑i : Int) * 11 + 1 + 1 + 1 + 1 + 1 + 1 + 1)) (cellO (gC enA g.1) (0
  + Int.toNat (↑i : Int) * 11 + 1 + 1 + 1 + 1 + 1 + 1 + 1)) (some 0))) (cellN (gC enA g.1) (0 + Int.toNat (↑i : Int) * 11 + 1 + 1 + 1 + 1 + 1 + 1 + 1)) 1))) /\ ((Eq (α :=
  Option Value) ((gC enA g.1)[0 + Int.toNat (↑i : Int) * 11 + 1 + 1 + 1 + 1 + 1 + 1 + 1 + 1]?) (some (Value.slice (some (Addr.mk (cellZ (gC enA g.1) (0 + Int.toNat (↑i :
  Int) * 11 + 1 + 1 + 1 + 1 + 1 + 1 + 1 + 1)) (cellO (gC enA g.1) (0 + Int.toNat (↑i : Int) * 11 + 1 + 1 + 1 + 1 + 1 + 1 + 1 + 1)) (some 0))) (cellN (gC enA g.1) (0 +
  Int.toNat (↑i : Int) * 11 + 1 + 1 + 1 + 1 + 1 + 1 + 1 + 1)) 3))) /\ ((Eq (α := Option Value) ((gC enA g.1)[0 + Int.toNat (↑i : Int) * 11 + 1 + 1 + 1 + 1 + 1 + 1 + 1 + 1 +
  1]?) (some (Value.string (cellS (gC enA g.1) (0 + Int.toNat (↑i : Int) * 11 + 1 + 1 + 1 + 1 + 1 + 1 + 1 + 1 + 1))))) /\ ((Eq (α := Option Value) ((gC enA g.1)[0 +
  Int.toNat (↑i : Int) * 11 + 1 + 1 + 1 + 1 + 1 + 1 + 1 + 1 + 1 + 1]?) (some (Value.bool (cellB (gC enA g.1) (0 + Int.toNat (↑i : Int) * 11 + 1 + 1 + 1 + 1 + 1 + 1 + 1 + 1 +
  1 + 1))))) /\ (((((True /\ (True /\ (True /\ (True /\ (True /\ (True /\ (cellO (gC enA g.1) (0 + Int.toNat (↑i : Int) * 11 + 1 + 1 + 1 + 1 + 1 + 1) + cellN (gC enA g.1) (0
  + Int.toNat (↑i : Int) * 11 + 1 + 1 + 1 + 1 + 1 + 1) * 1 <= List.length (gCells (cellZ (gC enA g.1) (0 + Int.toNat (↑i : Int) * 11 + 1 + 1 + 1 + 1 + 1 + 1))) /\ (cellO (gC
  enA g.1) (0 + Int.toNat (↑i : Int) * 11 + 1 + 1 + 1 + 1 + 1 + 1 + 1) + cellN (gC enA g.1) (0 + Int.toNat (↑i : Int) * 11 + 1 + 1 + 1 + 1 + 1 + 1 + 1) * 1 <= List.length
  (gCells (cellZ (gC enA g.1) (0 + Int.toNat (↑i : Int) * 11 + 1 + 1 + 1 + 1 + 1 + 1 + 1))) /\ (cellO (gC enA g.1) (0 + Int.toNat (↑i : Int) * 11 + 1 + 1 + 1 + 1 + 1 + 1 + 1
  + 1) + cellN (gC enA g.1) (0 + Int.toNat (↑i : Int) * 11 + 1 + 1 + 1 + 1 + 1 + 1 + 1 + 1) * 3 <= List.length (gCells (cellZ (gC enA g.1) (0 + Int.toNat (↑i : Int) * 11 + 1
  + 1 + 1 + 1 + 1 + 1 + 1 + 1))) /\ (True /\ (True /\ True))))))))))) /\ True) /\ ((True /\ (True /\ (True /\ True))) /\ (True /\ (IsY (Row.mk (List.take (cellN (gC enA g.1)
  (0 + Int.toNat (↑i : Int) * 11 + 1 + 1 + 1 + 1 + 1 + 1) * 1) (List.drop (cellO (gC enA g.1) (0 + Int.toNat (↑i : Int) * 11 + 1 + 1 + 1 + 1 + 1 + 1)) (gCells (cellZ (gC enA
  g.1) (0 + Int.toNat (↑i : Int) * 11 + 1 + 1 + 1 + 1 + 1 + 1))))) true (Ob.cells true)) /\ (IsY (Row.mk (List.take (cellN (gC enA g.1) (0 + Int.toNat (↑i : Int) * 11 + 1 +
  1 + 1 + 1 + 1 + 1 + 1) * 1) (List.drop (cellO (gC enA g.1) (0 + Int.toNat (↑i : Int) * 11 + 1 + 1 + 1 + 1 + 1 + 1 + 1)) (gCells (cellZ (gC enA g.1) (0 + Int.toNat (↑i :
  Int) * 11 + 1 + 1 + 1 + 1 + 1 + 1 + 1))))) true (Ob.cells true)) /\ IsX (Row.mk (List.take (cellN (gC enA g.1) (0 + Int.toNat (↑i : Int) * 11 + 1 + 1 + 1 + 1 + 1 + 1 + 1 +
  1) * 3) (List.drop (cellO (gC enA g.1) (0 + Int.toNat (↑i : Int) * 11 + 1 + 1 + 1 + 1 + 1 + 1 + 1 + 1)) (gCells (cellZ (gC enA g.1) (0 + Int.toNat (↑i : Int) * 11 + 1 + 1
  + 1 + 1 + 1 + 1 + 1 + 1))))) true (Ob.cells true)) (cellN (gC enA g.1) (0 + Int.toNat (↑i : Int) * 11 + 1 + 1 + 1 + 1 + 1 + 1 + 1 + 1)))))))) /\ (br (!lgA (Row.mk
  (List.take (cellN (gC enA g.1) (0 + Int.toNat (↑i : Int) * 11 + 1 + 1 + 1 + 1 + 1 + 1 + 1 + 1) * 3) (List.drop (cellO (gC enA g.1) (0 + Int.toNat (↑i : Int) * 11 + 1 + 1 +
  1 + 1 + 1 + 1 + 1 + 1)) (gCells (cellZ (gC enA g.1) (0 + Int.toNat (↑i : Int) * 11 + 1 + 1 + 1 + 1 + 1 + 1 + 1 + 1))))) true (Ob.cells true)) (↑(cellN (gC enA g.1) (0 +
  Int.toNat (↑i : Int) * 11 + 1 + 1 + 1 + 1 + 1 + 1)) : Int) (↑(cellN (gC enA g.1) (0 + Int.toNat (↑i : Int) * 11 + 1 + 1 + 1 + 1 + 1 + 1 + 1)) : Int) (↑(List.length
  (Array.toList (ByteArray.data (cellS (gC enA g.1) (0 + Int.toNat (↑i : Int) * 11 + 1 + 1 + 1 + 1 + 1 + 1 + 1 + 1 + 1))))) : Int)) (∃ j : Nat, ((Inv j) /\ ((m j < m i) /\
  ((0 = 0) /\ ((List.length g.1 = List.length g.1) /\ ((0 = 0) /\ ((g.2 = g.2) /\ (((17 : Int) = (17 : Int)) /\ (((↑j : Int) = IntKind.wrap IntKind.i64 ((↑i : Int) + (1 :
  Int))) /\ ((Eq (α := List Value) (gC enA g.1) (gC enA g.1)) /\ ((Plain (gC enA g.1)) /\ ((true = true) /\ (((2 : Int) = (2 : Int)) /\ (((65535 : Int) = (65535 : Int)) /\
  (((65536 : Int) = (65536 : Int)) /\ (((4096 : Int) = (4096 : Int)) /\ (((2147483647 : Int) = (2147483647 : Int)) /\ (((65535 : Int) = (65535 : Int)) /\ (((16384 : Int) =
  (16384 : Int)) /\ (((2147483647 : Int) = (2147483647 : Int)) /\ ((0 = 0) /\ ((17 = 17) /\ ((0 = 0) /\ ((0 = 0) /\ ((0 = 0) /\ (((65535 : Int) = (65535 : Int)) /\ (((65535
  : Int) = (65535 : Int)) /\ (((5 : Int) = (5 : Int)) /\ (((1 : Int) = (1 : Int)) /\ ((true = true) /\ ((false = false) /\ ((true = true) /\ ((false = false) /\ ((false =
  false) /\ (((0 : Int) = (0 : Int)) /\ ((false = false) /\ ((Eq (α := List Value) ([Value.int IntKind.u8 (0 : Int), Value.int IntKind.u8 (0 : Int), Value.int IntKind.u8 (8
  : Int), Value.int IntKind.u8 (7 : Int), Value.int IntKind.u8 (0 : Int), Value.int IntKind.u8 (0 : Int), Value.int IntKind.u8 (0 : Int), Value.int IntKind.u8 (0 : Int),
  Value.int IntKind.u8 (0 : Int), Value.int IntKind.u8 (0 : Int), Value.int IntKind.u8 (0 : Int), Value.int IntKind.u8 (0 : Int), Value.int IntKind.u8 (5 : Int), Value.int
  IntKind.u8 g.3, Value.int IntKind.u8 g.4, Value.int IntKind.u8 g.5, Value.int IntKind.u8 g.6]) ([Value.int IntKind.u8 (0 : Int), Value.int IntKind.u8 (0 : Int), Value.int
  IntKind.u8 (8 : Int), Value.int IntKind.u8 (7 : Int), Value.int IntKind.u8 (0 : Int), Value.int IntKind.u8 (0 : Int), Value.int IntKind.u8 (0 : Int), Value.int IntKind.u8
  (0 : Int), Value.int IntKind.u8 (0 : Int), Value.int IntKind.u8 (0 : Int), Value.int IntKind.u8 (0 : Int), Value.int IntKind.u8 (0 : Int), Value.int IntKind.u8 (5 : Int),
  Value.int IntKind.u8 g.3, Value.int IntKind.u8 g.4, Value.int IntKind.u8 g.5, Value.int IntKind.u8 g.6])) /\ ((Plain [Value.int IntKind.u8 (0 : Int), Value.int IntKind.u8
  (0 : Int), Value.int IntKind.u8 (8 : Int), Value.int IntKind.u8 (7 : Int), Value.int IntKind.u8 (0 : Int), Value.int IntKind.u8 (0 : Int), Value.int IntKind.u8 (0 : Int),
  Value.int IntKind.u8 (0 : Int), Value.int IntKind.u8 (0 : Int), Value.int IntKind.u8 (0 : Int), Value.int IntKind.u8 (0 : Int), Value.int IntKind.u8 (0 : Int), Value.int
  IntKind.u8 (5 : Int), Value.int IntKind.u8 g.3, Value.int IntKind.u8 g.4, Value.int IntKind.u8 g.5, Value.int IntKind.u8 g.6]) /\
  True)))))))))))))))))))))))))))))))))))))) (∃ j : Nat, ((Inv j) /\ ((m j < m i) /\ ((0 = 0) /\ ((List.length g.1 = List.length g.1) /\ ((0 = 0) /\ ((g.2 = g.2) /\ (((17 :
  Int) = (17 : Int)) /\ (((↑j : Int) = IntKind.wrap IntKind.i64 ((↑i : Int) + (1 : Int))) /\ ((Eq (α := List Value) (gC enA g.1) (gC enA g.1)) /\ ((Plain (gC enA g.1)) /\
  ((true = true) /\ (((2 : Int) = (2 : Int)) /\ (((65535 : Int) = (65535 : Int)) /\ (((65536 : Int) = (65536 : Int)) /\ (((4096 : Int) = (4096 : Int)) /\ (((2147483647 :
  Int) = (2147483647 : Int)) /\ (((65535 : Int) = (65535 : Int)) /\ (((16384 : Int) = (16384 : Int)) /\ (((2147483647 : Int) = (2147483647 : Int)) /\ ((0 = 0) /\ ((17 = 17)
  /\ ((0 = 0) /\ ((0 = 0) /\ ((0 = 0) /\ (((65535 : Int) = (65535 : Int)) /\ (((65535 : Int) = (65535 : Int)) /\ (((5 : Int) = (5 : Int)) /\ (((1 : Int) = (1 : Int)) /\
  ((true = true) /\ ((false = false) /\ ((true = true) /\ ((false = false) /\ ((false = false) /\ (((0 : Int) = (0 : Int)) /\ ((false = false) /\ ((Eq (α := List Value)
  ([Value.int IntKind.u8 (0 : Int), Value.int IntKind.u8 (0 : Int), Value.int IntKind.u8 (8 : Int), Value.int IntKind.u8 (7 : Int), Value.int IntKind.u8 (0 : Int), Value.int
  IntKind.u8 (0 : Int), Value.int IntKind.u8 (0 : Int), Value.int IntKind.u8 (0 : Int), Value.int IntKind.u8 (0 : Int), Value.int IntKind.u8 (0 : Int), Value.int IntKind.u8
  (0 : Int), Value.int IntKind.u8 (0 : Int), Value.int IntKind.u8 (5 : Int), Value.int IntKind.u8 g.3, Value.int IntKind.u8 g.4, Value.int IntKind.u8 g.5, Value.int
  IntKind.u8 g.6]) ([Value.int IntKind.u8 (0 : Int), Value.int IntKind.u8 (0 : Int), Value.int IntKind.u8 (8 : Int), Value.int IntKind.u8 (7 : Int), Value.int IntKind.u8 (0
  : Int), Value.int IntKind.u8 (0 : Int), Value.int IntKind.u8 (0 : Int), Value.int IntKind.u8 (0 : Int), Value.int IntKind.u8 (0 : Int), Value.int IntKind.u8 (0 : Int),
  Value.int IntKind.u8 (0 : Int), Value.int IntKind.u8 (0 : Int), Value.int IntKind.u8 (5 : Int), Value.int IntKind.u8 g.3, Value.int IntKind.u8 g.4, Value.int IntKind.u8
  g.5, Value.int IntKind.u8 g.6])) /\ ((Plain [Value.int IntKind.u8 (0 : Int), Value.int IntKind.u8 (0 : Int), Value.int IntKind.u8 (8 : Int), Value.int IntKind.u8 (7 :
  Int), Value.int IntKind.u8 (0 : Int), Value.int IntKind.u8 (0 : Int), Value.int IntKind.u8 (0 : Int), Value.int IntKind.u8 (0 : Int), Value.int IntKind.u8 (0 : Int),
  Value.int IntKind.u8 (0 : Int), Value.int IntKind.u8 (0 : Int), Value.int IntKind.u8 (0 : Int), Value.int IntKind.u8 (5 : Int), Value.int IntKind.u8 g.3, Value.int
  IntKind.u8 g.4, Value.int IntKind.u8 g.5, Value.int IntKind.u8 g.6]) /\ True))))))))))))))))))))))))))))))))))))))))))))))))))) False) (∃ y : Unit, ((True) /\ ((0 = 0) /\
  ((g.2 = g.2) /\ (((17 : Int) = (17 : Int)) /\ ((Eq (α := List Value) (gC enA g.1) (gC enA g.1)) /\ ((Plain (gC enA g.1)) /\ ((true = true) /\ (((2 : Int) = (2 : Int)) /\
  (((65535 : Int) = (65535 : Int)) /\ (((65536 : Int) = (65536 : Int)) /\ (((4096 : Int) = (4096 : Int)) /\ (((2147483647 : Int) = (2147483647 : Int)) /\ (((65535 : Int) =
  (65535 : Int)) /\ (((16384 : Int) = (16384 : Int)) /\ (((2147483647 : Int) = (2147483647 : Int)) /\ ((0 = 0) /\ ((17 = 17) /\ ((0 = 0) /\ ((0 = 0) /\ ((0 = 0) /\ (((65535
  : Int) = (65535 : Int)) /\ (((65535 : Int) = (65535 : Int)) /\ (((5 : Int) = (5 : Int)) /\ (((1 : Int) = (1 : Int)) /\ ((true = true) /\ ((false = false) /\ ((true = true)
  /\ ((false = false) /\ ((false = false) /\ (((0 : Int) = (0 : Int)) /\ ((false = false) /\ ((Eq (α := List Value) ([Value.int IntKind.u8 (0 : Int), Value.int IntKind.u8 (0
  : Int), Value.int IntKind.u8 (8 : Int), Value.int IntKind.u8 (7 : Int), Value.int IntKind.u8 (0 : Int), Value.int IntKind.u8 (0 : Int), Value.int IntKind.u8 (0 : Int),
  Value.int IntKind.u8 (0 : Int), Value.int IntKind.u8 (0 : Int), Value.int IntKind.u8 (0 : Int), Value.int IntKind.u8 (0 : Int), Value.int IntKind.u8 (0 : Int), Value.int
  IntKind.u8 (5 : Int), Value.int IntKind.u8 g.3, Value.int IntKind.u8 g.4, Value.int IntKind.u8 g.5, Value.int IntKind.u8 g.6]) ([Value.int IntKind.u8 (0 : Int), Value.int
  IntKind.u8 (0 : Int), Value.int IntKind.u8 (8 : Int), Value.int IntKind.u8 (7 : Int), Value.int IntKind.u8 (0 : Int), Value.int IntKind.u8 (0 : Int), Value.int IntKind.u8
  (0 : Int), Value.int IntKind.u8 (0 : Int), Value.int IntKind.u8 (0 : Int), Value.int IntKind.u8 (0 : Int), Value.int IntKind.u8 (0 : Int), Value.int IntKind.u8 (0 : Int),
  Value.int IntKind.u8 (5 : Int), Value.int IntKind.u8 g.3, Value.int IntKind.u8 g.4, Value.int IntKind.u8 g.5, Value.int IntKind.u8 g.6])) /\ ((Plain [Value.int IntKind.u8
  (0 : Int), Value.int IntKind.u8 (0 : Int), Value.int IntKind.u8 (8 : Int), Value.int IntKind.u8 (7 : Int), Value.int IntKind.u8 (0 : Int), Value.int IntKind.u8 (0 : Int),
  Value.int IntKind.u8 (0 : Int), Value.int IntKind.u8 (0 : Int), Value.int IntKind.u8 (0 : Int), Value.int IntKind.u8 (0 : Int), Value.int IntKind.u8 (0 : Int), Value.int
  IntKind.u8 (0 : Int), Value.int IntKind.u8 (5 : Int), Value.int IntKind.u8 g.3, Value.int IntKind.u8 g.4, Value.int IntKind.u8 g.5, Value.int IntKind.u8 g.6]) /\
  True))))))))))))))))))))))))))))))))))) (∃ y : Unit, ((True) /\ ((0 = 0) /\ ((g.2 = g.2) /\ (((17 : Int) = (17 : Int)) /\ ((Eq (α := List Value) (gC enA g.1) (gC enA g.1))
  /\ ((Plain (gC enA g.1)) /\ ((true = true) /\ (((2 : Int) = (2 : Int)) /\ (((65535 : Int) = (65535 : Int)) /\ (((65536 : Int) = (65536 : Int)) /\ (((4096 : Int) = (4096 :
  Int)) /\ (((2147483647 : Int) = (2147483647 : Int)) /\ (((65535 : Int) = (65535 : Int)) /\ (((16384 : Int) = (16384 : Int)) /\ (((2147483647 : Int) = (2147483647 : Int))
  /\ ((0 = 0) /\ ((17 = 17) /\ ((0 = 0) /\ ((0 = 0) /\ ((0 = 0) /\ (((65535 : Int) = (65535 : Int)) /\ (((65535 : Int) = (65535 : Int)) /\ (((5 : Int) = (5 : Int)) /\ (((1 :
  Int) = (1 : Int)) /\ ((true = true) /\ ((false = false) /\ ((true = true) /\ ((false = false) /\ ((false = false) /\ (((0 : Int) = (0 : Int)) /\ ((false = false) /\ ((Eq
  (α := List Value) ([Value.int IntKind.u8 (0 : Int), Value.int IntKind.u8 (0 : Int), Value.int IntKind.u8 (8 : Int), Value.int IntKind.u8 (7 : Int), Value.int IntKind.u8 (0
  : Int), Value.int IntKind.u8 (0 : Int), Value.int IntKind.u8 (0 : Int), Value.int IntKind.u8 (0 : Int), Value.int IntKind.u8 (0 : Int), Value.int IntKind.u8 (0 : Int),
  Value.int IntKind.u8 (0 : Int), Value.int IntKind.u8 (0 : Int), Value.int IntKind.u8 (5 : Int), Value.int IntKind.u8 g.3, Value.int IntKind.u8 g.4, Value.int IntKind.u8
  g.5, Value.int IntKind.u8 g.6]) ([Value.int IntKind.u8 (0 : Int), Value.int IntKind.u8 (0 : Int), Value.int IntKind.u8 (8 : Int), Value.int IntKind.u8 (7 : Int), Value.int
  IntKind.u8 (0 : Int), Value.int IntKind.u8 (0 : Int), Value.int IntKind.u8 (0 : Int), Value.int IntKind.u8 (0 : Int), Value.int IntKind.u8 (0 : Int), Value.int IntKind.u8
  (0 : Int), Value.int IntKind.u8 (0 : Int), Value.int IntKind.u8 (0 : Int), Value.int IntKind.u8 (5 : Int), Value.int IntKind.u8 g.3, Value.int IntKind.u8 g.4, Value.int
  IntKind.u8 g.5, Value.int IntKind.u8 g.6])) /\ ((Plain [Value.int IntKind.u8 (0 : Int), Value.int IntKind.u8 (0 : Int), Value.int IntKind.u8 (8 : Int), Value.int
  IntKind.u8 (7 : Int), Value.int IntKind.u8 (0 : Int), Value.int IntKind.u8 (0 : Int), Value.int IntKind.u8 (0 : Int), Value.int IntKind.u8 (0 : Int), Value.int IntKind.u8
  (0 : Int), Value.int IntKind.u8 (0 : Int), Value.int IntKind.u8 (0 : Int), Value.int IntKind.u8 (0 : Int), Value.int IntKind.u8 (5 : Int), Value.int IntKind.u8 g.3,
  Value.int IntKind.u8 g.4, Value.int IntKind.u8 g.5, Value.int IntKind.u8 g.6]) /\ True))))))))))))))))))))))))))))))))))) := by kernel_rfl
theorem tCs_ok : ∀ x ∈ tCs, EntOk Tryz.prog x := all_cons eRunsC_ok (all_cons eLi_ok all_nil)
theorem aPl (l : List Ax) : Plain (gC enA l) := gC_plain (fun a v hv => by simp only [enA, List.mem_cons, List.not_mem_nil, or_false] at hv; rcases hv with rfl | rfl | rfl | rfl | rfl | rfl | rfl | rfl | rfl | rfl | rfl <;> rfl) l
theorem xG (l : List Rx) : gAll (gC enX l) = true := by
  induction l with
  | nil => rfl
  | cons a l ih => rw [gC_cons]; unfold gAll at *; rw [List.all_append, ih]; rfl
theorem bG (l : List UInt8) : gAll (bCells l) = true := by
  unfold gAll; rw [List.all_eq_true]; intro v hv
  obtain ⟨b, _, rfl⟩ := List.mem_map.1 hv; rfl
theorem aGet (l : List Ax) (i : Nat) (h : i < l.length) (x : Ax) (hx : l[i] = x) : (gC enA l)[i * 11]? = some (.int .i64 x.a) ∧ (gC enA l)[i * 11 + 1]? = some (.int .i64 x.b) ∧ (gC enA l)[i * 11 + 1 + 1]? = some (.int .i64 x.c) ∧ (gC enA l)[i * 11 + 1 + 1 + 1]? = some (.int .i64 x.d) ∧ (gC enA l)[i * 11 + 1 + 1 + 1 + 1]? = some (.int .i64 x.e) ∧ (gC enA l)[i * 11 + 1 + 1 + 1 + 1 + 1]? = some (.int .i64 x.f) ∧ (gC enA l)[i * 11 + 1 + 1 + 1 + 1 + 1 + 1]? = some (.slice (some ⟨gCode (bCells x.p), 0, some 0⟩) x.p.length 1) ∧ (gC enA l)[i * 11 + 1 + 1 + 1 + 1 + 1 + 1 + 1]? = some (.slice (some ⟨gCode (bCells x.q), 0, some 0⟩) x.q.length 1) ∧ (gC enA l)[i * 11 + 1 + 1 + 1 + 1 + 1 + 1 + 1 + 1]? = some (.slice (some ⟨gCode (gC enX x.r), 0, some 0⟩) x.r.length 3) ∧ (gC enA l)[i * 11 + 1 + 1 + 1 + 1 + 1 + 1 + 1 + 1 + 1]? = some (.string x.t) ∧ (gC enA l)[i * 11 + 1 + 1 + 1 + 1 + 1 + 1 + 1 + 1 + 1 + 1]? = some (.bool x.k) := by
  subst hx
  have get : ∀ j, j < 11 → (gC enA l)[i * 11 + j]? = (enA l[i])[j]? := fun j hj => gC_get (en := enA) (k := 11) (fun _ => rfl) l i j h hj
  exact ⟨get 0 (by omega), get 1 (by omega), get 2 (by omega), get 3 (by omega), get 4 (by omega), get 5 (by omega), get 6 (by omega), get 7 (by omega), get 8 (by omega), get 9 (by omega), get 10 (by omega)⟩
theorem aCell (l : List Ax) (i : Nat) (h : i < l.length) (x : Ax) (hx : l[i] = x) : cellI (gC enA l) (i * 11) = x.a ∧ cellI (gC enA l) (i * 11 + 1) = x.b ∧ cellI (gC enA l) (i * 11 + 1 + 1) = x.c ∧ cellI (gC enA l) (i * 11 + 1 + 1 + 1) = x.d ∧ cellI (gC enA l) (i * 11 + 1 + 1 + 1 + 1) = x.e ∧ cellI (gC enA l) (i * 11 + 1 + 1 + 1 + 1 + 1) = x.f ∧ cellZ (gC enA l) (i * 11 + 1 + 1 + 1 + 1 + 1 + 1) = gCode (bCells x.p) ∧ cellO (gC enA l) (i * 11 + 1 + 1 + 1 + 1 + 1 + 1) = 0 ∧ cellN (gC enA l) (i * 11 + 1 + 1 + 1 + 1 + 1 + 1) = x.p.length ∧ cellZ (gC enA l) (i * 11 + 1 + 1 + 1 + 1 + 1 + 1 + 1) = gCode (bCells x.q) ∧ cellO (gC enA l) (i * 11 + 1 + 1 + 1 + 1 + 1 + 1 + 1) = 0 ∧ cellN (gC enA l) (i * 11 + 1 + 1 + 1 + 1 + 1 + 1 + 1) = x.q.length ∧ cellZ (gC enA l) (i * 11 + 1 + 1 + 1 + 1 + 1 + 1 + 1 + 1) = gCode (gC enX x.r) ∧ cellO (gC enA l) (i * 11 + 1 + 1 + 1 + 1 + 1 + 1 + 1 + 1) = 0 ∧ cellN (gC enA l) (i * 11 + 1 + 1 + 1 + 1 + 1 + 1 + 1 + 1) = x.r.length ∧ cellS (gC enA l) (i * 11 + 1 + 1 + 1 + 1 + 1 + 1 + 1 + 1 + 1) = x.t ∧ cellB (gC enA l) (i * 11 + 1 + 1 + 1 + 1 + 1 + 1 + 1 + 1 + 1 + 1) = x.k := by
  obtain ⟨c0, c1, c2, c3, c4, c5, c6, c7, c8, c9, c10⟩ := aGet l i h x hx
  unfold cellI cellZ cellO cellN cellS cellB
  rw [c0, c1, c2, c3, c4, c5, c6, c7, c8, c9, c10]
  exact ⟨rfl, rfl, rfl, rfl, rfl, rfl, rfl, rfl, rfl, rfl, rfl, rfl, rfl, rfl, rfl, rfl, rfl⟩
theorem quP (a b c d : Int) : Plain [.int .u8 0, .int .u8 0, .int .u8 8, .int .u8 7, .int .u8 0, .int .u8 0, .int .u8 0, .int .u8 0, .int .u8 0, .int .u8 0, .int .u8 0, .int .u8 0, .int .u8 5, .int .u8 a, .int .u8 b, .int .u8 c, .int .u8 d] := by
  intro v hv
  simp only [List.mem_cons, List.not_mem_nil, or_false] at hv
  rcases hv with rfl | rfl | rfl | rfl | rfl | rfl | rfl | rfl | rfl | rfl | rfl | rfl | rfl | rfl | rfl | rfl | rfl <;> rfl
theorem S_piece : PieceOk ECs 1 (11, pS, specS) := by
  refine piece_loop mixed (calls_envTc tCs_ok) (lok_envTc _ _) lm_none (n := 60) (by kernel_rfl) (fun _ : GS => 0) (fun g i => i ≤ g.l.length) (fun g i => g.l.length - i) (sl := fun g i => slS g i) (rl := fun g _ => rlS g) (fun g hg => Nat.zero_le _) (fun g i hg hi => ?_)
  refine (S_round g i _ _).mpr ?_
  obtain ⟨l, kk, a, b, c, d⟩ := g
  obtain ⟨g1, g2⟩ := hg
  simp only at g1 g2 hi
  simp only [ofNat_eq, toNat_cast, Nat.zero_add, Nat.add_zero, Nat.mul_one, List.drop_zero, bCells_len, bCells_drop, bCells_take, bCells_app, bCells_one, bCells_plain, List.length_replicate, List.length_append, List.length_take, List.length_drop, List.take_length, and_true, true_and, and_self, decide_true, List.length_nil, List.length_cons, Nat.sub_zero, dB_mk, dB_ro, List.take_zero, Int.toNat_natCast, aPl, quP]
  have tt : ∀ (y : Unit), True := fun _ => trivial
  refine br_if (fun h => br_if (fun h20 => br_dec (by omega) ?_) (fun h20 => ?_)) (fun h => ?_)
  · have hl : i < l.length := by omega
    have w := i64_succ (show i < 9223372036854775807 by unfold maxLen at g1; omega)
    obtain ⟨c0, c1, c2, c3, c4, c5, c6, c7, c8, c9, c10⟩ := aGet l i hl _ rfl
    obtain ⟨d0, d1, d2, d3, d4, d5, d6, d7, d8, d9, d10, d11, d12, d13, d14, d15, d16⟩ := aCell l i hl _ rfl
    have ox := g2 _ (List.getElem_mem hl)
    generalize l[i] = x at *
    simp only [c0, c1, c2, c3, c4, c5, c6, c7, c8, c9, c10, d0, d1, d2, d3, d4, d5, d6, d7, d8, d9, d10, d11, d12, d13, d14, d15, d16, w, gCells_code (bG _), gCells_code (xG _), xLen, xPl, bCells_len, bCells_plain, ofNat_eq, toNat_cast, Nat.zero_add, Nat.add_zero, Nat.mul_one, List.drop_zero, bCells_len, bCells_drop, bCells_take, bCells_app, bCells_one, bCells_plain, List.length_replicate, List.length_append, List.length_take, List.length_drop, List.take_length, and_true, true_and, and_self, decide_true, List.length_nil, List.length_cons, Nat.sub_zero, dB_mk, dB_ro, List.take_zero]
    have e : (gC enX x.r).take (x.r.length * 3) = gC enX x.r := List.take_of_length_le (by rw [xLen]; omega)
    rw [e]
    have nxt : ∃ j, j ≤ l.length ∧ l.length - j < l.length - i ∧ (j : Int) = ((i + 1 : Nat) : Int) := ⟨i + 1, by omega, by omega, rfl⟩
    exact ⟨⟨⟨Nat.le_refl _, Nat.le_refl _, Nat.le_refl _⟩, ⟨_, rfl⟩, ⟨_, rfl⟩, ⟨x.r, rfl, rfl, ox⟩⟩, br_intro (fun _ => nxt) (fun _ => nxt)⟩
  · exact ⟨(), trivial⟩
  · exact ⟨(), trivial⟩
end Go.Proofs.YtcallecdjebojaaGreat.cs
