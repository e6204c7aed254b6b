/- ScriptNobody: where nobody is, nothing is done, and nothing is heard. -/
import Derived.Test.YtnglilhmfhmhjaaGreatDoorSz9
import Derived.Test.YtnglilhmfhmhjaaGreatDoorRows
import Derived.Test.YtnglilhmfhmhjaaGreatDoorLsnB
import Derived.Test.YtnglilhmfhmhjaaGreatDoorLlawSr
set_option maxRecDepth 20000
set_option linter.unusedSimpArgs false
set_option linter.unusedVariables false
namespace Go.Proofs.YtnglilhmfhmhjaaGreatDoor.sn
open Go Go.Ev Go.Sy Go.RowKit Go.Proofs.YtnglilhmfhmhjaaGreatDoor.gl Go.Proofs.YtnglilhmfhmhjaaGreatDoor.tk
structure Sg where
  k : Int
  a : Int
  b : Int
  c : Int
  z : Nat
  o : Nat
  n : Nat
  t : ByteArray
  e : Bool
noncomputable def enS7 (x : Sg) : List Value := [.int .i64 x.k, .int .i64 x.a, .int .i64 x.b, .int .i64 x.c, .slice (some ⟨x.z, x.o, some 0⟩) x.n 3, .string x.t, .bool x.e]
def slS (r n : Nat) : Value := .slice (some ⟨r, 0, none⟩) n 7
structure Cf where
  b : Int
  s : Nat
  st : Int
  w : Int
  l : Int
  t : Int
  u : Int
def cfC (c : Cf) : List Value := [.int .i64 c.b, .float .f64 c.s, .int .i64 c.st, .int .i64 c.w, .int .i64 c.l, .int .i64 c.t, .int .i64 c.u]
noncomputable def eRunsS : EntM := entC 3 fun a r => match a, r with
  | [], [] => some (True, .bool true, [])
  | _, _ => none
def wC (c : Cf) : List Value := [.int .i64 c.b, .float .f64 c.s, .int .i64 c.st, .int .i64 c.w, .int .i64 c.l, .int .i64 c.t, .int .i64 c.u, .pointer (some ⟨2, 0, none⟩), .pointer none, .int .i64 0, .slice none 0 0, .pointer none, .int .i64 0, .slice none 0 0, .pointer none, .int .i64 0, .slice none 0 0, .pointer none, .int .i64 0, .slice none 0 0, .pointer none, .int .i64 0, .slice none 0 0, .pointer none, .int .i64 0, .slice none 0 0, .pointer none, .int .i64 0, .slice none 0 0, .pointer none, .int .i64 0, .slice none 0 0, .pointer none, .int .i64 0, .slice none 0 0, .pointer none, .int .i64 0, .slice none 0 0, .pointer none, .int .i64 0, .slice none 0 0, .pointer none, .int .i64 0, .slice none 0 0, .pointer none, .int .i64 0, .slice none 0 0, .pointer none, .int .i64 0, .slice none 0 0, .pointer none, .int .i64 0, .slice none 0 0, .pointer none, .int .i64 0, .slice none 0 0, .slice none 0 0, .slice none 0 0]
def xC (c : Cf) : List Value := [.int .i64 c.b, .float .f64 c.s, .int .i64 c.st, .int .i64 c.w, .int .i64 c.l, .int .i64 c.t, .int .i64 c.u, .int .i64 0, .pointer (some ⟨3, 0, none⟩), .pointer none, .pointer none, .pointer none, .pointer none, .pointer none, .pointer none, .pointer none, .pointer none, .pointer none, .pointer none, .pointer none, .pointer none, .pointer none, .pointer none, .pointer none, .pointer none, .slice none 0 0, .slice none 0 0]
def SOk (x : Sg) : Prop := ∃ f : List Rw, ((gCells x.z).drop x.o).take (x.n * 3) = gC enR f ∧ f.length = x.n ∧ x.n ≤ maxLen ∧ x.o + x.n * 3 ≤ (gCells x.z).length
structure GN where
  c : Cf
  l : List Sg
def pSn : List Nat := [0, 1, 0, 1, 1, 1]
def slSn (g : GN) (i : Nat) : List (Nat × Value) := [(1, slS 0 g.l.length), (5, .pointer (some ⟨1, 0, none⟩)), (7, .int .i64 (i : Nat))]
noncomputable def rlSn (g : GN) : List (Nat × Row) := [(0, gRo enS7 g.l), (1, ⟨wC g.c, false, .cells false⟩), (2, ⟨xC g.c, false, .cells false⟩)]
noncomputable def wsSn (g : GN) : List (Gate Unit) := [⟨.exit 0, fun _ => True, fun _ => [(5, .pointer (some ⟨1, 0, none⟩))], fun _ => rlSn g, 4⟩, ⟨.ret, fun _ => False, fun _ => [(4, .bool false)], fun _ => [(0, gRo enS7 g.l)], 4⟩]
noncomputable def specSn : Sy.Spec := specOf 1 4 97 (fun g : GN => ∀ x ∈ g.l, SOk x) (fun g => slSn g 0) rlSn wsSn
noncomputable def mSn := mOf [(6, pSn, specSn)]
noncomputable def tSn : List EntM := [eStp, eAt, eRunsS]
noncomputable abbrev EtSn : Env := envT Tryz.prog tSn
noncomputable abbrev EN : Env := envCut EtSn [27, 28, 30, 31]
theorem Sn_round (g : GN) (i : Nat) (Inv : Nat → Prop) (m : Nat → Nat) : mev EN noM 60 6 (0 :: pSn) false (codeOf Tryz.prog 6 (0 :: pSn)) ⟨mkOv (slSn g i), 97, []⟩ none ⟨mkR (rlSn g), 4⟩ (roundK 1 4 97 Inv m (slSn g) (fun _ => rlSn g) (wsSn g) i) =
  (br (decide ((↑i : Int) < Int.ofNat (List.length g.2))) (br (decide ((↑i : Int) < (60 : Int))) (br (decide ((0 : Int) <= (↑i : Int) /\ (↑i : Int) < (↑(List.length g.2) :
  Int))) ((Eq (α := Option Value) ((gC enS7 g.2)[0 + Int.toNat (↑i : Int) * 7]?) (some (Value.int IntKind.i64 (cellI (gC enS7 g.2) (0 + Int.toNat (↑i : Int) * 7))))) /\ ((Eq
  (α := Option Value) ((gC enS7 g.2)[0 + Int.toNat (↑i : Int) * 7 + 1]?) (some (Value.int IntKind.i64 (cellI (gC enS7 g.2) (0 + Int.toNat (↑i : Int) * 7 + 1))))) /\ ((Eq (α
  := Option Value) ((gC enS7 g.2)[0 + Int.toNat (↑i : Int) * 7 + 1 + 1]?) (some (Value.int IntKind.i64 (cellI (gC enS7 g.2) (0 + Int.toNat (↑i : Int) * 7 + 1 + 1))))) /\
  ((Eq (α := Option Value) ((gC enS7 g.2)[0 + Int.toNat (↑i : Int) * 7 + 1 + 1 + 1]?) (some (Value.int IntKind.i64 (cellI (gC enS7 g.2) (0 + Int.toNat (↑i : Int) * 7 + 1 + 1
  + 1))))) /\ ((Eq (α := Option Value) ((gC enS7 g.2)[0 + Int.toNat (↑i : Int) * 7 + 1 + 1 + 1 + 1]?) (some (Value.slice (some (Addr.mk (cellZ (gC enS7 g.2) (0 + Int.toNat
  (↑i : Int) * 7 + 1 + 1 + 1 + 1)) (cellO (gC enS7 g.2) (0 + Int.toNat (↑i : Int) * 7 + 1 + 1 + 1 + 1)) (some 0))) (cellN (gC enS7 g.2) (0 + Int.toNat (↑i : Int) * 7 + 1 + 1
  + 1 + 1)) 3))) /\ ((Eq (α := Option Value) ((gC enS7 g.2)[0 + Int.toNat (↑i : Int) * 7 + 1 + 1 + 1 + 1 + 1]?) (some (Value.string (cellS (gC enS7 g.2) (0 + Int.toNat (↑i :
  Int) * 7 + 1 + 1 + 1 + 1 + 1))))) /\ ((Eq (α := Option Value) ((gC enS7 g.2)[0 + Int.toNat (↑i : Int) * 7 + 1 + 1 + 1 + 1 + 1 + 1]?) (some (Value.bool (cellB (gC enS7 g.2)
  (0 + Int.toNat (↑i : Int) * 7 + 1 + 1 + 1 + 1 + 1 + 1))))) /\ (((((True /\ (True /\ (True /\ (True /\ (cellO (gC enS7 g.2) (0 + Int.toNat (↑i : Int) * 7 + 1 + 1 + 1 + 1) +
  cellN (gC enS7 g.2) (0 + Int.toNat (↑i : Int) * 7 + 1 + 1 + 1 + 1) * 3 <= List.length (gCells (cellZ (gC enS7 g.2) (0 + Int.toNat (↑i : Int) * 7 + 1 + 1 + 1 + 1))) /\
  (True /\ (True /\ True))))))) /\ True) /\ ((True /\ True) /\ (True /\ (IsRw (Row.mk (List.take (cellN (gC enS7 g.2) (0 + Int.toNat (↑i : Int) * 7 + 1 + 1 + 1 + 1) * 3)
  (List.drop (cellO (gC enS7 g.2) (0 + Int.toNat (↑i : Int) * 7 + 1 + 1 + 1 + 1)) (gCells (cellZ (gC enS7 g.2) (0 + Int.toNat (↑i : Int) * 7 + 1 + 1 + 1 + 1))))) true
  (Ob.cells true)) (cellN (gC enS7 g.2) (0 + Int.toNat (↑i : Int) * 7 + 1 + 1 + 1 + 1)) /\ cellN (gC enS7 g.2) (0 + Int.toNat (↑i : Int) * 7 + 1 + 1 + 1 + 1) <=
  9223372036854775807))))) /\ (br (!stZ (Row.mk (List.take (cellN (gC enS7 g.2) (0 + Int.toNat (↑i : Int) * 7 + 1 + 1 + 1 + 1) * 3) (List.drop (cellO (gC enS7 g.2) (0 +
  Int.toNat (↑i : Int) * 7 + 1 + 1 + 1 + 1)) (gCells (cellZ (gC enS7 g.2) (0 + Int.toNat (↑i : Int) * 7 + 1 + 1 + 1 + 1))))) true (Ob.cells true)) (cellS (gC enS7 g.2) (0 +
  Int.toNat (↑i : Int) * 7 + 1 + 1 + 1 + 1 + 1))) (∃ j : Nat, ((Inv j) /\ ((m j < m i) /\ ((0 = 0) /\ ((List.length g.2 = List.length g.2) /\ ((0 = 0) /\ (((↑j : Int) =
  IntKind.wrap IntKind.i64 ((↑i : Int) + (1 : Int))) /\ ((Eq (α := List Value) (gC enS7 g.2) (gC enS7 g.2)) /\ ((Plain (gC enS7 g.2)) /\ ((g.1.1 = g.1.1) /\ ((g.1.2 = g.1.2)
  /\ ((g.1.3 = g.1.3) /\ ((g.1.4 = g.1.4) /\ ((g.1.5 = g.1.5) /\ ((g.1.6 = g.1.6) /\ ((g.1.7 = g.1.7) /\ ((0 = 0) /\ (((0 : Int) = (0 : Int)) /\ (((0 : Int) = (0 : Int)) /\
  (((0 : Int) = (0 : Int)) /\ (((0 : Int) = (0 : Int)) /\ (((0 : Int) = (0 : Int)) /\ (((0 : Int) = (0 : Int)) /\ (((0 : Int) = (0 : Int)) /\ (((0 : Int) = (0 : Int)) /\
  (((0 : Int) = (0 : Int)) /\ (((0 : Int) = (0 : Int)) /\ (((0 : Int) = (0 : Int)) /\ (((0 : Int) = (0 : Int)) /\ (((0 : Int) = (0 : Int)) /\ (((0 : Int) = (0 : Int)) /\
  (((0 : Int) = (0 : Int)) /\ (((0 : Int) = (0 : Int)) /\ ((g.1.1 = g.1.1) /\ ((g.1.2 = g.1.2) /\ ((g.1.3 = g.1.3) /\ ((g.1.4 = g.1.4) /\ ((g.1.5 = g.1.5) /\ ((g.1.6 =
  g.1.6) /\ ((g.1.7 = g.1.7) /\ (((0 : Int) = (0 : Int)) /\ ((0 = 0) /\ True)))))))))))))))))))))))))))))))))))))))))) (br (decide ((0 : Int) <= (↑i : Int) /\ (↑i : Int) <
  (↑(List.length g.2) : Int))) ((Eq (α := Option Value) ((gC enS7 g.2)[0 + Int.toNat (↑i : Int) * 7 + 0]?) (some (Value.int IntKind.i64 (cellI (gC enS7 g.2) (0 + Int.toNat
  (↑i : Int) * 7 + 0))))) /\ (br (cellI (gC enS7 g.2) (0 + Int.toNat (↑i : Int) * 7 + 0) == (1 : Int)) (∃ j : Nat, ((Inv j) /\ ((m j < m i) /\ ((0 = 0) /\ ((List.length g.2
  = List.length g.2) /\ ((0 = 0) /\ (((↑j : Int) = IntKind.wrap IntKind.i64 ((↑i : Int) + (1 : Int))) /\ ((Eq (α := List Value) (gC enS7 g.2) (gC enS7 g.2)) /\ ((Plain (gC
  enS7 g.2)) /\ ((g.1.1 = g.1.1) /\ ((g.1.2 = g.1.2) /\ ((g.1.3 = g.1.3) /\ ((g.1.4 = g.1.4) /\ ((g.1.5 = g.1.5) /\ ((g.1.6 = g.1.6) /\ ((g.1.7 = g.1.7) /\ ((0 = 0) /\ (((0
  : Int) = (0 : Int)) /\ (((0 : Int) = (0 : Int)) /\ (((0 : Int) = (0 : Int)) /\ (((0 : Int) = (0 : Int)) /\ (((0 : Int) = (0 : Int)) /\ (((0 : Int) = (0 : Int)) /\ (((0 :
  Int) = (0 : Int)) /\ (((0 : Int) = (0 : Int)) /\ (((0 : Int) = (0 : Int)) /\ (((0 : Int) = (0 : Int)) /\ (((0 : Int) = (0 : Int)) /\ (((0 : Int) = (0 : Int)) /\ (((0 :
  Int) = (0 : Int)) /\ (((0 : Int) = (0 : Int)) /\ (((0 : Int) = (0 : Int)) /\ (((0 : Int) = (0 : Int)) /\ ((g.1.1 = g.1.1) /\ ((g.1.2 = g.1.2) /\ ((g.1.3 = g.1.3) /\
  ((g.1.4 = g.1.4) /\ ((g.1.5 = g.1.5) /\ ((g.1.6 = g.1.6) /\ ((g.1.7 = g.1.7) /\ (((0 : Int) = (0 : Int)) /\ ((0 = 0) /\ True)))))))))))))))))))))))))))))))))))))))))) (br
  (decide ((0 : Int) <= (↑i : Int) /\ (↑i : Int) < (↑(List.length g.2) : Int))) ((Eq (α := Option Value) ((gC enS7 g.2)[0 + Int.toNat (↑i : Int) * 7 + 0]?) (some (Value.int
  IntKind.i64 (cellI (gC enS7 g.2) (0 + Int.toNat (↑i : Int) * 7 + 0))))) /\ (br (cellI (gC enS7 g.2) (0 + Int.toNat (↑i : Int) * 7 + 0) == (14 : Int)) (∃ j : Nat, ((Inv j)
  /\ ((m j < m i) /\ ((0 = 0) /\ ((List.length g.2 = List.length g.2) /\ ((0 = 0) /\ (((↑j : Int) = IntKind.wrap IntKind.i64 ((↑i : Int) + (1 : Int))) /\ ((Eq (α := List
  Value) (gC enS7 g.2) (gC enS7 g.2)) /\ ((Plain (gC enS7 g.2)) /\ ((g.1.1 = g.1.1) /\ ((g.1.2 = g.1.2) /\ ((g.1.3 = g.1.3) /\ ((g.1.4 = g.1.4) /\ ((g.1.5 = g.1.5) /\
  ((g.1.6 = g.1.6) /\ ((g.1.7 = g.1.7) /\ ((0 = 0) /\ (((0 : Int) = (0 : Int)) /\ (((0 : Int) = (0 : Int)) /\ (((0 : Int) = (0 : Int)) /\ (((0 : Int) = (0 : Int)) /\ (((0 :
  Int) = (0 : Int)) /\ (((0 : Int) = (0 : Int)) /\ (((0 : Int) = (0 : Int)) /\ (((0 : Int) = (0 : Int)) /\ (((0 : Int) = (0 : Int)) /\ (((0 : Int) = (0 : Int)) /\ (((0 :
  Int) = (0 : Int)) /\ (((0 : Int) = (0 : Int)) /\ (((0 : Int) = (0 : Int)) /\ (((0 : Int) = (0 : Int)) /\ (((0 : Int) = (0 : Int)) /\ (((0 : Int) = (0 : Int)) /\ ((g.1.1 =
  g.1.1) /\ ((g.1.2 = g.1.2) /\ ((g.1.3 = g.1.3) /\ ((g.1.4 = g.1.4) /\ ((g.1.5 = g.1.5) /\ ((g.1.6 = g.1.6) /\ ((g.1.7 = g.1.7) /\ (((0 : Int) = (0 : Int)) /\ ((0 = 0) /\
  True)))))))))))))))))))))))))))))))))))))))))) (br (decide ((0 : Int) <= (↑i : Int) /\ (↑i : Int) < (↑(List.length g.2) : Int))) ((Eq (α := Option Value) ((gC enS7 g.2)[0
  + Int.toNat (↑i : Int) * 7]?) (some (Value.int IntKind.i64 (cellI (gC enS7 g.2) (0 + Int.toNat (↑i : Int) * 7))))) /\ ((Eq (α := Option Value) ((gC enS7 g.2)[0 + Int.toNat
  (↑i : Int) * 7 + 1]?) (some (Value.int IntKind.i64 (cellI (gC enS7 g.2) (0 + Int.toNat (↑i : Int) * 7 + 1))))) /\ ((Eq (α := Option Value) ((gC enS7 g.2)[0 + Int.toNat (↑i
  : Int) * 7 + 1 + 1]?) (some (Value.int IntKind.i64 (cellI (gC enS7 g.2) (0 + Int.toNat (↑i : Int) * 7 + 1 + 1))))) /\ ((Eq (α := Option Value) ((gC enS7 g.2)[0 + Int.toNat
  (↑i : Int) * 7 + 1 + 1 + 1]?) (some (Value.int IntKind.i64 (cellI (gC enS7 g.2) (0 + Int.toNat (↑i : Int) * 7 + 1 + 1 + 1))))) /\ ((Eq (α := Option Value) ((gC enS7 g.2)[0
  + Int.toNat (↑i : Int) * 7 + 1 + 1 + 1 + 1]?) (some (Value.slice (some (Addr.mk (cellZ (gC enS7 g.2) (0 + Int.toNat (↑i : Int) * 7 + 1 + 1 + 1 + 1)) (cellO (gC enS7 g.2)
  (0 + Int.toNat (↑i : Int) * 7 + 1 + 1 + 1 + 1)) (some 0))) (cellN (gC enS7 g.2) (0 + Int.toNat (↑i : Int) * 7 + 1 + 1 + 1 + 1)) 3))) /\ ((Eq (α := Option Value) ((gC enS7
  g.2)[0 + Int.toNat (↑i : Int) * 7 + 1 + 1 + 1 + 1 + 1]?) (some (Value.string (cellS (gC enS7 g.2) (0 + Int.toNat (↑i : Int) * 7 + 1 + 1 + 1 + 1 + 1))))) /\ ((Eq (α :=
  Option Value) ((gC enS7 g.2)[0 + Int.toNat (↑i : Int) * 7 + 1 + 1 + 1 + 1 + 1 + 1]?) (some (Value.bool (cellB (gC enS7 g.2) (0 + Int.toNat (↑i : Int) * 7 + 1 + 1 + 1 + 1 +
  1 + 1))))) /\ (br (cellI (gC enS7 g.2) (0 + Int.toNat (↑i : Int) * 7) == (1 : Int)) False (br (cellI (gC enS7 g.2) (0 + Int.toNat (↑i : Int) * 7) == (14 : Int)) False (br
  (cellI (gC enS7 g.2) (0 + Int.toNat (↑i : Int) * 7) == (2 : Int)) (((((32 <= 58 /\ Plain [Value.pointer none, Value.int IntKind.i64 (0 : Int), Value.slice none 0 0,
  Value.pointer none, Value.int IntKind.i64 (0 : Int), Value.slice none 0 0, Value.pointer none, Value.int IntKind.i64 (0 : Int), Value.slice none 0 0, Value.pointer none,
  Value.int IntKind.i64 (0 : Int), Value.slice none 0 0, Value.pointer none, Value.int IntKind.i64 (0 : Int), Value.slice none 0 0, Value.pointer none, Value.int IntKind.i64
  (0 : Int), Value.slice none 0 0, Value.pointer none, Value.int IntKind.i64 (0 : Int), Value.slice none 0 0, Value.pointer none, Value.int IntKind.i64 (0 : Int),
  Value.slice none 0 0]) /\ (True /\ True)) /\ ((True /\ True) /\ (True /\ Eq (α := List Value) ([Value.pointer none, Value.int IntKind.i64 (0 : Int), Value.slice none 0 0,
  Value.pointer none, Value.int IntKind.i64 (0 : Int), Value.slice none 0 0, Value.pointer none, Value.int IntKind.i64 (0 : Int), Value.slice none 0 0, Value.pointer none,
  Value.int IntKind.i64 (0 : Int), Value.slice none 0 0, Value.pointer none, Value.int IntKind.i64 (0 : Int), Value.slice none 0 0, Value.pointer none, Value.int IntKind.i64
  (0 : Int), Value.slice none 0 0, Value.pointer none, Value.int IntKind.i64 (0 : Int), Value.slice none 0 0, Value.pointer none, Value.int IntKind.i64 (0 : Int),
  Value.slice none 0 0]) ([Value.pointer none, Value.int IntKind.i64 (0 : Int), Value.slice none 0 0, Value.pointer none, Value.int IntKind.i64 (0 : Int), Value.slice none 0
  0, Value.pointer none, Value.int IntKind.i64 (0 : Int), Value.slice none 0 0, Value.pointer none, Value.int IntKind.i64 (0 : Int), Value.slice none 0 0, Value.pointer
  none, Value.int IntKind.i64 (0 : Int), Value.slice none 0 0, Value.pointer none, Value.int IntKind.i64 (0 : Int), Value.slice none 0 0, Value.pointer none, Value.int
  IntKind.i64 (0 : Int), Value.slice none 0 0, Value.pointer none, Value.int IntKind.i64 (0 : Int), Value.slice none 0 0]))))) /\ ((Value.slice (some (Addr.mk 1 8 none)) 8 3
  = Value.slice (some (Addr.mk 1 8 none)) 8 3) /\ ((Value.int IntKind.i64 (cellI (gC enS7 g.2) (0 + Int.toNat (↑i : Int) * 7 + 1)) = Value.int IntKind.i64 (cellI (gC enS7
  g.2) (0 + Int.toNat (↑i : Int) * 7 + 1))) /\ (∃ j : Nat, ((Inv j) /\ ((m j < m i) /\ ((0 = 0) /\ ((List.length g.2 = List.length g.2) /\ ((0 = 0) /\ (((↑j : Int) =
  IntKind.wrap IntKind.i64 ((↑i : Int) + (1 : Int))) /\ ((Eq (α := List Value) (gC enS7 g.2) (gC enS7 g.2)) /\ ((Plain (gC enS7 g.2)) /\ ((g.1.1 = g.1.1) /\ ((g.1.2 = g.1.2)
  /\ ((g.1.3 = g.1.3) /\ ((g.1.4 = g.1.4) /\ ((g.1.5 = g.1.5) /\ ((g.1.6 = g.1.6) /\ ((g.1.7 = g.1.7) /\ ((0 = 0) /\ (((0 : Int) = (0 : Int)) /\ (((0 : Int) = (0 : Int)) /\
  (((0 : Int) = (0 : Int)) /\ (((0 : Int) = (0 : Int)) /\ (((0 : Int) = (0 : Int)) /\ (((0 : Int) = (0 : Int)) /\ (((0 : Int) = (0 : Int)) /\ (((0 : Int) = (0 : Int)) /\
  (((0 : Int) = (0 : Int)) /\ (((0 : Int) = (0 : Int)) /\ (((0 : Int) = (0 : Int)) /\ (((0 : Int) = (0 : Int)) /\ (((0 : Int) = (0 : Int)) /\ (((0 : Int) = (0 : Int)) /\
  (((0 : Int) = (0 : Int)) /\ (((0 : Int) = (0 : Int)) /\ ((g.1.1 = g.1.1) /\ ((g.1.2 = g.1.2) /\ ((g.1.3 = g.1.3) /\ ((g.1.4 = g.1.4) /\ ((g.1.5 = g.1.5) /\ ((g.1.6 =
  g.1.6) /\ ((g.1.7 = g.1.7) /\ (((0 : Int) = (0 : Int)) /\ ((0 = 0) /\ True))))))))))))))))))))))))))))))))))))))))))))) (br (cellI (gC enS7 g.2) (0 + Int.toNat (↑i : Int)
  * 7) == (3 : Int)) (((((32 <= 58 /\ Plain [Value.pointer none, Value.int IntKind.i64 (0 : Int), Value.slice none 0 0, Value.pointer none, Value.int IntKind.i64 (0 : Int),
  Value.slice none 0 0, Value.pointer none, Value.int IntKind.i64 (0 : Int), Value.slice none 0 0, Value.pointer none, Value.int IntKind.i64 (0 : Int), Value.slice none 0 0,
  Value.pointer none, Value.int IntKind.i64 (0 : Int), Value.slice none 0 0, Value.pointer none, Value.int IntKind.i64 (0 : Int), Value.slice none 0 0, Value.pointer none,
  Value.int IntKind.i64 (0 : Int), Value.slice none 0 0, Value.pointer none, Value.int IntKind.i64 (0 : Int), Value.slice none 0 0]) /\ (True /\ True)) /\ ((True /\ True) /\
  (True /\ Eq (α := List Value) ([Value.pointer none, Value.int IntKind.i64 (0 : Int), Value.slice none 0 0, Value.pointer none, Value.int IntKind.i64 (0 : Int), Value.slice
  none 0 0, Value.pointer none, Value.int IntKind.i64 (0 : Int), Value.slice none 0 0, Value.pointer none, Value.int IntKind.i64 (0 : Int), Value.slice none 0 0,
  Value.pointer none, Value.int IntKind.i64 (0 : Int), Value.slice none 0 0, Value.pointer none, Value.int IntKind.i64 (0 : Int), Value.slice none 0 0, Value.pointer none,
  Value.int IntKind.i64 (0 : Int), Value.slice none 0 0, Value.pointer none, Value.int IntKind.i64 (0 : Int), Value.slice none 0 0]) ([Value.pointer none, Value.int
  IntKind.i64 (0 : Int), Value.slice none 0 0, Value.pointer none, Value.int IntKind.i64 (0 : Int), Value.slice none 0 0, Value.pointer none, Value.int IntKind.i64 (0 :
  Int), Value.slice none 0 0, Value.pointer none, Value.int IntKind.i64 (0 : Int), Value.slice none 0 0, Value.pointer none, Value.int IntKind.i64 (0 : Int), Value.slice
  none 0 0, Value.pointer none, Value.int IntKind.i64 (0 : Int), Value.slice none 0 0, Value.pointer none, Value.int IntKind.i64 (0 : Int), Value.slice none 0 0,
  Value.pointer none, Value.int IntKind.i64 (0 : Int), Value.slice none 0 0]))))) /\ ((Value.slice (some (Addr.mk 1 8 none)) 8 3 = Value.slice (some (Addr.mk 1 8 none)) 8 3)
  /\ ((Value.int IntKind.i64 (cellI (gC enS7 g.2) (0 + Int.toNat (↑i : Int) * 7 + 1)) = Value.int IntKind.i64 (cellI (gC enS7 g.2) (0 + Int.toNat (↑i : Int) * 7 + 1))) /\ (∃
  j : Nat, ((Inv j) /\ ((m j < m i) /\ ((0 = 0) /\ ((List.length g.2 = List.length g.2) /\ ((0 = 0) /\ (((↑j : Int) = IntKind.wrap IntKind.i64 ((↑i : Int) + (1 : Int))) /\
  ((Eq (α := List Value) (gC enS7 g.2) (gC enS7 g.2)) /\ ((Plain (gC enS7 g.2)) /\ ((g.1.1 = g.1.1) /\ ((g.1.2 = g.1.2) /\ ((g.1.3 = g.1.3) /\ ((g.1.4 = g.1.4) /\ ((g.1.5 =
  g.1.5) /\ ((g.1.6 = g.1.6) /\ ((g.1.7 = g.1.7) /\ ((0 = 0) /\ (((0 : Int) = (0 : Int)) /\ (((0 : Int) = (0 : Int)) /\ (((0 : Int) = (0 : Int)) /\ (((0 : Int) = (0 : Int))
  /\ (((0 : Int) = (0 : Int)) /\ (((0 : Int) = (0 : Int)) /\ (((0 : Int) = (0 : Int)) /\ (((0 : Int) = (0 : Int)) /\ (((0 : Int) = (0 : Int)) /\ (((0 : Int) = (0 : Int)) /\
  (((0 : Int) = (0 : Int)) /\ (((0 : Int) = (0 : Int)) /\ (((0 : Int) = (0 : Int)) /\ (((0 : Int) = (0 : Int)) /\ (((0 : Int) = (0 : Int)) /\ (((0 : Int) = (0 : Int)) /\
  ((g.1.1 = g.1.1) /\ ((g.1.2 = g.1.2) /\ ((g.1.3 = g.1.3) /\ ((g.1.4 = g.1.4) /\ ((g.1.5 = g.1.5) /\ ((g.1.6 = g.1.6) /\ ((g.1.7 = g.1.7) /\ (((0 : Int) = (0 : Int)) /\ ((0
  = 0) /\ True))))))))))))))))))))))))))))))))))))))))))))) (br (cellI (gC enS7 g.2) (0 + Int.toNat (↑i : Int) * 7) == (4 : Int)) (((((32 <= 58 /\ Plain [Value.pointer none,
  Value.int IntKind.i64 (0 : Int), Value.slice none 0 0, Value.pointer none, Value.int IntKind.i64 (0 : Int), Value.slice none 0 0, Value.pointer none, Value.int IntKind.i64
  (0 : Int), Value.slice none 0 0, Value.pointer none, Value.int IntKind.i64 (0 : Int), Value.slice none 0 0, Value.pointer none, Value.int IntKind.i64 (0 : Int),
  Value.slice none 0 0, Value.pointer none, Value.int IntKind.i64 (0 : Int), Value.slice none 0 0, Value.pointer none, Value.int IntKind.i64 (0 : Int), Value.slice none 0 0,
  Value.pointer none, Value.int IntKind.i64 (0 : Int), Value.slice none 0 0]) /\ (True /\ True)) /\ ((True /\ True) /\ (True /\ Eq (α := List Value) ([Value.pointer none,
  Value.int IntKind.i64 (0 : Int), Value.slice none 0 0, Value.pointer none, Value.int IntKind.i64 (0 : Int), Value.slice none 0 0, Value.pointer none, Value.int IntKind.i64
  (0 : Int), Value.slice none 0 0, Value.pointer none, Value.int IntKind.i64 (0 : Int), Value.slice none 0 0, Value.pointer none, Value.int IntKind.i64 (0 : Int),
  Value.slice none 0 0, Value.pointer none, Value.int IntKind.i64 (0 : Int), Value.slice none 0 0, Value.pointer none, Value.int IntKind.i64 (0 : Int), Value.slice none 0 0,
  Value.pointer none, Value.int IntKind.i64 (0 : Int), Value.slice none 0 0]) ([Value.pointer none, Value.int IntKind.i64 (0 : Int), Value.slice none 0 0, Value.pointer
  none, Value.int IntKind.i64 (0 : Int), Value.slice none 0 0, Value.pointer none, Value.int IntKind.i64 (0 : Int), Value.slice none 0 0, Value.pointer none, Value.int
  IntKind.i64 (0 : Int), Value.slice none 0 0, Value.pointer none, Value.int IntKind.i64 (0 : Int), Value.slice none 0 0, Value.pointer none, Value.int IntKind.i64 (0 :
  Int), Value.slice none 0 0, Value.pointer none, Value.int IntKind.i64 (0 : Int), Value.slice none 0 0, Value.pointer none, Value.int IntKind.i64 (0 : Int), Value.slice
  none 0 0]))))) /\ ((Value.slice (some (Addr.mk 1 8 none)) 8 3 = Value.slice (some (Addr.mk 1 8 none)) 8 3) /\ ((Value.int IntKind.i64 (cellI (gC enS7 g.2) (0 + Int.toNat
  (↑i : Int) * 7 + 1)) = Value.int IntKind.i64 (cellI (gC enS7 g.2) (0 + Int.toNat (↑i : Int) * 7 + 1))) /\ (∃ j : Nat, ((Inv j) /\ ((m j < m i) /\ ((0 = 0) /\ ((List.length
  g.2 = List.length g.2) /\ ((0 = 0) /\ (((↑j : Int) = IntKind.wrap IntKind.i64 ((↑i : Int) + (1 : Int))) /\ ((Eq (α := List Value) (gC enS7 g.2) (gC enS7 g.2)) /\ ((Plain
  (gC enS7 g.2)) /\ ((g.1.1 = g.1.1) /\ ((g.1.2 = g.1.2) /\ ((g.1.3 = g.1.3) /\ ((g.1.4 = g.1.4) /\ ((g.1.5 = g.1.5) /\ ((g.1.6 = g.1.6) /\ ((g.1.7 = g.1.7) /\ ((0 = 0) /\
  (((0 : Int) = (0 : Int)) /\ (((0 : Int) = (0 : Int)) /\ (((0 : Int) = (0 : Int)) /\ (((0 : Int) = (0 : Int)) /\ (((0 : Int) = (0 : Int)) /\ (((0 : Int) = (0 : Int)) /\
  (((0 : Int) = (0 : Int)) /\ (((0 : Int) = (0 : Int)) /\ (((0 : Int) = (0 : Int)) /\ (((0 : Int) = (0 : Int)) /\ (((0 : Int) = (0 : Int)) /\ (((0 : Int) = (0 : Int)) /\
  (((0 : Int) = (0 : Int)) /\ (((0 : Int) = (0 : Int)) /\ (((0 : Int) = (0 : Int)) /\ (((0 : Int) = (0 : Int)) /\ ((g.1.1 = g.1.1) /\ ((g.1.2 = g.1.2) /\ ((g.1.3 = g.1.3) /\
  ((g.1.4 = g.1.4) /\ ((g.1.5 = g.1.5) /\ ((g.1.6 = g.1.6) /\ ((g.1.7 = g.1.7) /\ (((0 : Int) = (0 : Int)) /\ ((0 = 0) /\ True)))))))))))))))))))))))))))))))))))))))))))))
  (br (cellI (gC enS7 g.2) (0 + Int.toNat (↑i : Int) * 7) == (5 : Int)) (((((32 <= 58 /\ Plain [Value.pointer none, Value.int IntKind.i64 (0 : Int), Value.slice none 0 0,
  Value.pointer none, Value.int IntKind.i64 (0 : Int), Value.slice none 0 0, Value.pointer none, Value.int IntKind.i64 (0 : Int), Value.slice none 0 0, Value.pointer none,
  Value.int IntKind.i64 (0 : Int), Value.slice none 0 0, Value.pointer none, Value.int IntKind.i64 (0 : Int), Value.slice none 0 0, Value.pointer none, Value.int IntKind.i64
  (0 : Int), Value.slice none 0 0, Value.pointer none, Value.int IntKind.i64 (0 : Int), Value.slice none 0 0, Value.pointer none, Value.int IntKind.i64 (0 : Int),
  Value.slice none 0 0]) /\ (True /\ True)) /\ ((True /\ True) /\ (True /\ Eq (α := List Value) ([Value.pointer none, Value.int IntKind.i64 (0 : Int), Value.slice none 0 0,
  Value.pointer none, Value.int IntKind.i64 (0 : Int), Value.slice none 0 0, Value.pointer none, Value.int IntKind.i64 (0 : Int), Value.slice none 0 0, Value.pointer none,
  Value.int IntKind.i64 (0 : Int), Value.slice none 0 0, Value.pointer none, Value.int IntKind.i64 (0 : Int), Value.slice none 0 0, Value.pointer none, Value.int IntKind.i64
  (0 : Int), Value.slice none 0 0, Value.pointer none, Value.int IntKind.i64 (0 : Int), Value.slice none 0 0, Value.pointer none, Value.int IntKind.i64 (0 : Int),
  Value.slice none 0 0]) ([Value.pointer none, Value.int IntKind.i64 (0 : Int), Value.slice none 0 0, Value.pointer none, Value.int IntKind.i64 (0 : Int), Value.slice none 0
  0, Value.pointer none, Value.int IntKind.i64 (0 : Int), Value.slice none 0 0, Value.pointer none, Value.int IntKind.i64 (0 : Int), Value.slice none 0 0, Value.pointer
  none, Value.int IntKind.i64 (0 : Int), Value.slice none 0 0, Value.pointer none, Value.int IntKind.i64 (0 : Int), Value.slice none 0 0, Value.pointer none, Value.int
  IntKind.i64 (0 : Int), Value.slice none 0 0, Value.pointer none, Value.int IntKind.i64 (0 : Int), Value.slice none 0 0]))))) /\ ((Value.slice (some (Addr.mk 1 8 none)) 8 3
  = Value.slice (some (Addr.mk 1 8 none)) 8 3) /\ ((Value.int IntKind.i64 (cellI (gC enS7 g.2) (0 + Int.toNat (↑i : Int) * 7 + 1)) = Value.int IntKind.i64 (cellI (gC enS7
  g.2) (0 + Int.toNat (↑i : Int) * 7 + 1))) /\ (∃ j : Nat, ((Inv j) /\ ((m j < m i) /\ ((0 = 0) /\ ((List.length g.2 = List.length g.2) /\ ((0 = 0) /\ (((↑j : Int) =
  IntKind.wrap IntKind.i64 ((↑i : Int) + (1 : Int))) /\ ((Eq (α := List Value) (gC enS7 g.2) (gC enS7 g.2)) /\ ((Plain (gC enS7 g.2)) /\ ((g.1.1 = g.1.1) /\ ((g.1.2 = g.1.2)
  /\ ((g.1.3 = g.1.3) /\ ((g.1.4 = g.1.4) /\ ((g.1.5 = g.1.5) /\ ((g.1.6 = g.1.6) /\ ((g.1.7 = g.1.7) /\ ((0 = 0) /\ (((0 : Int) = (0 : Int)) /\ (((0 : Int) = (0 : Int)) /\
  (((0 : Int) = (0 : Int)) /\ (((0 : Int) = (0 : Int)) /\ (((0 : Int) = (0 : Int)) /\ (((0 : Int) = (0 : Int)) /\ (((0 : Int) = (0 : Int)) /\ (((0 : Int) = (0 : Int)) /\
  (((0 : Int) = (0 : Int)) /\ (((0 : Int) = (0 : Int)) /\ (((0 : Int) = (0 : Int)) /\ (((0 : Int) = (0 : Int)) /\ (((0 : Int) = (0 : Int)) /\ (((0 : Int) = (0 : Int)) /\
  (((0 : Int) = (0 : Int)) /\ (((0 : Int) = (0 : Int)) /\ ((g.1.1 = g.1.1) /\ ((g.1.2 = g.1.2) /\ ((g.1.3 = g.1.3) /\ ((g.1.4 = g.1.4) /\ ((g.1.5 = g.1.5) /\ ((g.1.6 =
  g.1.6) /\ ((g.1.7 = g.1.7) /\ (((0 : Int) = (0 : Int)) /\ ((0 = 0) /\ True))))))))))))))))))))))))))))))))))))))))))))) (br (cellI (gC enS7 g.2) (0 + Int.toNat (↑i : Int)
  * 7) == (10 : Int)) (((((32 <= 58 /\ Plain [Value.pointer none, Value.int IntKind.i64 (0 : Int), Value.slice none 0 0, Value.pointer none, Value.int IntKind.i64 (0 : Int),
  Value.slice none 0 0, Value.pointer none, Value.int IntKind.i64 (0 : Int), Value.slice none 0 0, Value.pointer none, Value.int IntKind.i64 (0 : Int), Value.slice none 0 0,
  Value.pointer none, Value.int IntKind.i64 (0 : Int), Value.slice none 0 0, Value.pointer none, Value.int IntKind.i64 (0 : Int), Value.slice none 0 0, Value.pointer none,
  Value.int IntKind.i64 (0 : Int), Value.slice none 0 0, Value.pointer none, Value.int IntKind.i64 (0 : Int), Value.slice none 0 0]) /\ (True /\ True)) /\ ((True /\ True) /\
  (True /\ Eq (α := List Value) ([Value.pointer none, Value.int IntKind.i64 (0 : Int), Value.slice none 0 0, Value.pointer none, Value.int IntKind.i64 (0 : Int), Value.slice
  none 0 0, Value.pointer none, Value.int IntKind.i64 (0 : Int), Value.slice none 0 0, Value.pointer none, Value.int IntKind.i64 (0 : Int), Value.slice none 0 0,
  Value.pointer none, Value.int IntKind.i64 (0 : Int), Value.slice none 0 0, Value.pointer none, Value.int IntKind.i64 (0 : Int), Value.slice none 0 0, Value.pointer none,
  Value.int IntKind.i64 (0 : Int), Value.slice none 0 0, Value.pointer none, Value.int IntKind.i64 (0 : Int), Value.slice none 0 0]) ([Value.pointer none, Value.int
  IntKind.i64 (0 : Int), Value.slice none 0 0, Value.pointer none, Value.int IntKind.i64 (0 : Int), Value.slice none 0 0, Value.pointer none, Value.int IntKind.i64 (0 :
  Int), Value.slice none 0 0, Value.pointer none, Value.int IntKind.i64 (0 : Int), Value.slice none 0 0, Value.pointer none, Value.int IntKind.i64 (0 : Int), Value.slice
  none 0 0, Value.pointer none, Value.int IntKind.i64 (0 : Int), Value.slice none 0 0, Value.pointer none, Value.int IntKind.i64 (0 : Int), Value.slice none 0 0,
  Value.pointer none, Value.int IntKind.i64 (0 : Int), Value.slice none 0 0]))))) /\ ((Value.slice (some (Addr.mk 1 8 none)) 8 3 = Value.slice (some (Addr.mk 1 8 none)) 8 3)
  /\ ((Value.int IntKind.i64 (cellI (gC enS7 g.2) (0 + Int.toNat (↑i : Int) * 7 + 1)) = Value.int IntKind.i64 (cellI (gC enS7 g.2) (0 + Int.toNat (↑i : Int) * 7 + 1))) /\ (∃
  j : Nat, ((Inv j) /\ ((m j < m i) /\ ((0 = 0) /\ ((List.length g.2 = List.length g.2) /\ ((0 = 0) /\ (((↑j : Int) = IntKind.wrap IntKind.i64 ((↑i : Int) + (1 : Int))) /\
  ((Eq (α := List Value) (gC enS7 g.2) (gC enS7 g.2)) /\ ((Plain (gC enS7 g.2)) /\ ((g.1.1 = g.1.1) /\ ((g.1.2 = g.1.2) /\ ((g.1.3 = g.1.3) /\ ((g.1.4 = g.1.4) /\ ((g.1.5 =
  g.1.5) /\ ((g.1.6 = g.1.6) /\ ((g.1.7 = g.1.7) /\ ((0 = 0) /\ (((0 : Int) = (0 : Int)) /\ (((0 : Int) = (0 : Int)) /\ (((0 : Int) = (0 : Int)) /\ (((0 : Int) = (0 : Int))
  /\ (((0 : Int) = (0 : Int)) /\ (((0 : Int) = (0 : Int)) /\ (((0 : Int) = (0 : Int)) /\ (((0 : Int) = (0 : Int)) /\ (((0 : Int) = (0 : Int)) /\ (((0 : Int) = (0 : Int)) /\
  (((0 : Int) = (0 : Int)) /\ (((0 : Int) = (0 : Int)) /\ (((0 : Int) = (0 : Int)) /\ (((0 : Int) = (0 : Int)) /\ (((0 : Int) = (0 : Int)) /\ (((0 : Int) = (0 : Int)) /\
  ((g.1.1 = g.1.1) /\ ((g.1.2 = g.1.2) /\ ((g.1.3 = g.1.3) /\ ((g.1.4 = g.1.4) /\ ((g.1.5 = g.1.5) /\ ((g.1.6 = g.1.6) /\ ((g.1.7 = g.1.7) /\ (((0 : Int) = (0 : Int)) /\ ((0
  = 0) /\ True))))))))))))))))))))))))))))))))))))))))))))) (br (cellI (gC enS7 g.2) (0 + Int.toNat (↑i : Int) * 7) == (11 : Int)) (((((32 <= 58 /\ Plain [Value.pointer
  none, Value.int IntKind.i64 (0 : Int), Value.slice none 0 0, Value.pointer none, Value.int IntKind.i64 (0 : Int), Value.slice none 0 0, Value.pointer none, Value.int
  IntKind.i64 (0 : Int), Value.slice none 0 0, Value.pointer none, Value.int IntKind.i64 (0 : Int), Value.slice none 0 0, Value.pointer none, Value.int IntKind.i64 (0 :
  Int), Value.slice none 0 0, Value.pointer none, Value.int IntKind.i64 (0 : Int), Value.slice none 0 0, Value.pointer none, Value.int IntKind.i64 (0 : Int), Value.slice
  none 0 0, Value.pointer none, Value.int IntKind.i64 (0 : Int), Value.slice none 0 0]) /\ (True /\ True)) /\ ((True /\ True) /\ (True /\ Eq (α := List Value)
  ([Value.pointer none, Value.int IntKind.i64 (0 : Int), Value.slice none 0 0, Value.pointer none, Value.int IntKind.i64 (0 : Int), Value.slice none 0 0, Value.pointer none,
  Value.int IntKind.i64 (0 : Int), Value.slice none 0 0, Value.pointer none, Value.int IntKind.i64 (0 : Int), Value.slice none 0 0, Value.pointer none, Value.int IntKind.i64
  (0 : Int), Value.slice none 0 0, Value.pointer none, Value.int IntKind.i64 (0 : Int), Value.slice none 0 0, Value.pointer none, Value.int IntKind.i64 (0 : Int),
  Value.slice none 0 0, Value.pointer none, Value.int IntKind.i64 (0 : Int), Value.slice none 0 0]) ([Value.pointer none, Value.int IntKind.i64 (0 : Int), Value.slice none 0
  0, Value.pointer none, Value.int IntKind.i64 (0 : Int), Value.slice none 0 0, Value.pointer none, Value.int IntKind.i64 (0 : Int), Value.slice none 0 0, Value.pointer
  none, Value.int IntKind.i64 (0 : Int), Value.slice none 0 0, Value.pointer none, Value.int IntKind.i64 (0 : Int), Value.slice none 0 0, Value.pointer none, Value.int
  IntKind.i64 (0 : Int), Value.slice none 0 0, Value.pointer none, Value.int IntKind.i64 (0 : Int), Value.slice none 0 0, Value.pointer none, Value.int IntKind.i64 (0 :
  Int), Value.slice none 0 0]))))) /\ ((Value.slice (some (Addr.mk 1 8 none)) 8 3 = Value.slice (some (Addr.mk 1 8 none)) 8 3) /\ ((Value.int IntKind.i64 (cellI (gC enS7
  g.2) (0 + Int.toNat (↑i : Int) * 7 + 1)) = Value.int IntKind.i64 (cellI (gC enS7 g.2) (0 + Int.toNat (↑i : Int) * 7 + 1))) /\ (∃ j : Nat, ((Inv j) /\ ((m j < m i) /\ ((0 =
  0) /\ ((List.length g.2 = List.length g.2) /\ ((0 = 0) /\ (((↑j : Int) = IntKind.wrap IntKind.i64 ((↑i : Int) + (1 : Int))) /\ ((Eq (α := List Value) (gC enS7 g.2) (gC
  enS7 g.2)) /\ ((Plain (gC enS7 g.2)) /\ ((g.1.1 = g.1.1) /\ ((g.1.2 = g.1.2) /\ ((g.1.3 = g.1.3) /\ ((g.1.4 = g.1.4) /\ ((g.1.5 = g.1.5) /\ ((g.1.6 = g.1.6) /\ ((g.1.7 =
  g.1.7) /\ ((0 = 0) /\ (((0 : Int) = (0 : Int)) /\ (((0 : Int) = (0 : Int)) /\ (((0 : Int) = (0 : Int)) /\ (((0 : Int) = (0 : Int)) /\ (((0 : Int) = (0 : Int)) /\ (((0 :
  Int) = (0 : Int)) /\ (((0 : Int) = (0 : Int)) /\ (((0 : Int) = (0 : Int)) /\ (((0 : Int) = (0 : Int)) /\ (((0 : Int) = (0 : Int)) /\ (((0 : Int) = (0 : Int)) /\ (((0 :
  Int) = (0 : Int)) /\ (((0 : Int) = (0 : Int)) /\ (((0 : Int) = (0 : Int)) /\ (((0 : Int) = (0 : Int)) /\ (((0 : Int) = (0 : Int)) /\ ((g.1.1 = g.1.1) /\ ((g.1.2 = g.1.2)
  /\ ((g.1.3 = g.1.3) /\ ((g.1.4 = g.1.4) /\ ((g.1.5 = g.1.5) /\ ((g.1.6 = g.1.6) /\ ((g.1.7 = g.1.7) /\ (((0 : Int) = (0 : Int)) /\ ((0 = 0) /\
  True))))))))))))))))))))))))))))))))))))))))))))) (br (cellI (gC enS7 g.2) (0 + Int.toNat (↑i : Int) * 7) == (6 : Int)) (((((56 <= 58 /\ Plain [Value.pointer none,
  Value.int IntKind.i64 (0 : Int), Value.slice none 0 0, Value.pointer none, Value.int IntKind.i64 (0 : Int), Value.slice none 0 0, Value.pointer none, Value.int IntKind.i64
  (0 : Int), Value.slice none 0 0, Value.pointer none, Value.int IntKind.i64 (0 : Int), Value.slice none 0 0, Value.pointer none, Value.int IntKind.i64 (0 : Int),
  Value.slice none 0 0, Value.pointer none, Value.int IntKind.i64 (0 : Int), Value.slice none 0 0, Value.pointer none, Value.int IntKind.i64 (0 : Int), Value.slice none 0 0,
  Value.pointer none, Value.int IntKind.i64 (0 : Int), Value.slice none 0 0]) /\ (True /\ True)) /\ ((True /\ True) /\ (True /\ Eq (α := List Value) ([Value.pointer none,
  Value.int IntKind.i64 (0 : Int), Value.slice none 0 0, Value.pointer none, Value.int IntKind.i64 (0 : Int), Value.slice none 0 0, Value.pointer none, Value.int IntKind.i64
  (0 : Int), Value.slice none 0 0, Value.pointer none, Value.int IntKind.i64 (0 : Int), Value.slice none 0 0, Value.pointer none, Value.int IntKind.i64 (0 : Int),
  Value.slice none 0 0, Value.pointer none, Value.int IntKind.i64 (0 : Int), Value.slice none 0 0, Value.pointer none, Value.int IntKind.i64 (0 : Int), Value.slice none 0 0,
  Value.pointer none, Value.int IntKind.i64 (0 : Int), Value.slice none 0 0]) ([Value.pointer none, Value.int IntKind.i64 (0 : Int), Value.slice none 0 0, Value.pointer
  none, Value.int IntKind.i64 (0 : Int), Value.slice none 0 0, Value.pointer none, Value.int IntKind.i64 (0 : Int), Value.slice none 0 0, Value.pointer none, Value.int
  IntKind.i64 (0 : Int), Value.slice none 0 0, Value.pointer none, Value.int IntKind.i64 (0 : Int), Value.slice none 0 0, Value.pointer none, Value.int IntKind.i64 (0 :
  Int), Value.slice none 0 0, Value.pointer none, Value.int IntKind.i64 (0 : Int), Value.slice none 0 0, Value.pointer none, Value.int IntKind.i64 (0 : Int), Value.slice
  none 0 0]))))) /\ ((Value.slice (some (Addr.mk 1 32 none)) 8 3 = Value.slice (some (Addr.mk 1 32 none)) 8 3) /\ ((Value.int IntKind.i64 (cellI (gC enS7 g.2) (0 + Int.toNat
  (↑i : Int) * 7 + 1)) = Value.int IntKind.i64 (cellI (gC enS7 g.2) (0 + Int.toNat (↑i : Int) * 7 + 1))) /\ (∃ j : Nat, ((Inv j) /\ ((m j < m i) /\ ((0 = 0) /\ ((List.length
  g.2 = List.length g.2) /\ ((0 = 0) /\ (((↑j : Int) = IntKind.wrap IntKind.i64 ((↑i : Int) + (1 : Int))) /\ ((Eq (α := List Value) (gC enS7 g.2) (gC enS7 g.2)) /\ ((Plain
  (gC enS7 g.2)) /\ ((g.1.1 = g.1.1) /\ ((g.1.2 = g.1.2) /\ ((g.1.3 = g.1.3) /\ ((g.1.4 = g.1.4) /\ ((g.1.5 = g.1.5) /\ ((g.1.6 = g.1.6) /\ ((g.1.7 = g.1.7) /\ ((0 = 0) /\
  (((0 : Int) = (0 : Int)) /\ (((0 : Int) = (0 : Int)) /\ (((0 : Int) = (0 : Int)) /\ (((0 : Int) = (0 : Int)) /\ (((0 : Int) = (0 : Int)) /\ (((0 : Int) = (0 : Int)) /\
  (((0 : Int) = (0 : Int)) /\ (((0 : Int) = (0 : Int)) /\ (((0 : Int) = (0 : Int)) /\ (((0 : Int) = (0 : Int)) /\ (((0 : Int) = (0 : Int)) /\ (((0 : Int) = (0 : Int)) /\
  (((0 : Int) = (0 : Int)) /\ (((0 : Int) = (0 : Int)) /\ (((0 : Int) = (0 : Int)) /\ (((0 : Int) = (0 : Int)) /\ ((g.1.1 = g.1.1) /\ ((g.1.2 = g.1.2) /\ ((g.1.3 = g.1.3) /\
  ((g.1.4 = g.1.4) /\ ((g.1.5 = g.1.5) /\ ((g.1.6 = g.1.6) /\ ((g.1.7 = g.1.7) /\ (((0 : Int) = (0 : Int)) /\ ((0 = 0) /\ True)))))))))))))))))))))))))))))))))))))))))))))
  (br (cellI (gC enS7 g.2) (0 + Int.toNat (↑i : Int) * 7) == (7 : Int)) (((((56 <= 58 /\ Plain [Value.pointer none, Value.int IntKind.i64 (0 : Int), Value.slice none 0 0,
  Value.pointer none, Value.int IntKind.i64 (0 : Int), Value.slice none 0 0, Value.pointer none, Value.int IntKind.i64 (0 : Int), Value.slice none 0 0, Value.pointer none,
  Value.int IntKind.i64 (0 : Int), Value.slice none 0 0, Value.pointer none, Value.int IntKind.i64 (0 : Int), Value.slice none 0 0, Value.pointer none, Value.int IntKind.i64
  (0 : Int), Value.slice none 0 0, Value.pointer none, Value.int IntKind.i64 (0 : Int), Value.slice none 0 0, Value.pointer none, Value.int IntKind.i64 (0 : Int),
  Value.slice none 0 0]) /\ (True /\ True)) /\ ((True /\ True) /\ (True /\ Eq (α := List Value) ([Value.pointer none, Value.int IntKind.i64 (0 : Int), Value.slice none 0 0,
  Value.pointer none, Value.int IntKind.i64 (0 : Int), Value.slice none 0 0, Value.pointer none, Value.int IntKind.i64 (0 : Int), Value.slice none 0 0, Value.pointer none,
  Value.int IntKind.i64 (0 : Int), Value.slice none 0 0, Value.pointer none, Value.int IntKind.i64 (0 : Int), Value.slice none 0 0, Value.pointer none, Value.int IntKind.i64
  (0 : Int), Value.slice none 0 0, Value.pointer none, Value.int IntKind.i64 (0 : Int), Value.slice none 0 0, Value.pointer none, Value.int IntKind.i64 (0 : Int),
  Value.slice none 0 0]) ([Value.pointer none, Value.int IntKind.i64 (0 : Int), Value.slice none 0 0, Value.pointer none, Value.int IntKind.i64 (0 : Int), Value.slice none 0
  0, Value.pointer none, Value.int IntKind.i64 (0 : Int), Value.slice none 0 0, Value.pointer none, Value.int IntKind.i64 (0 : Int), Value.slice none 0 0, Value.pointer
  none, Value.int IntKind.i64 (0 : Int), Value.slice none 0 0, Value.pointer none, Value.int IntKind.i64 (0 : Int), Value.slice none 0 0, Value.pointer none, Value.int
  IntKind.i64 (0 : Int), Value.slice none 0 0, Value.pointer none, Value.int IntKind.i64 (0 : Int), Value.slice none 0 0]))))) /\ ((Value.slice (some (Addr.mk 1 32 none)) 8
  3 = Value.slice (some (Addr.mk 1 32 none)) 8 3) /\ ((Value.int IntKind.i64 (cellI (gC enS7 g.2) (0 + Int.toNat (↑i : Int) * 7 + 1)) = Value.int IntKind.i64 (cellI (gC enS7
  g.2) (0 + Int.toNat (↑i : Int) * 7 + 1))) /\ (∃ j : Nat, ((Inv j) /\ ((m j < m i) /\ ((0 = 0) /\ ((List.length g.2 = List.length g.2) /\ ((0 = 0) /\ (((↑j : Int) =
  IntKind.wrap IntKind.i64 ((↑i : Int) + (1 : Int))) /\ ((Eq (α := List Value) (gC enS7 g.2) (gC enS7 g.2)) /\ ((Plain (gC enS7 g.2)) /\ ((g.1.1 = g.1.1) /\ ((g.1.2 = g.1.2)
  /\ ((g.1.3 = g.1.3) /\ ((g.1.4 = g.1.4) /\ ((g.1.5 = g.1.5) /\ ((g.1.6 = g.1.6) /\ ((g.1.7 = g.1.7) /\ ((0 = 0) /\ (((0 : Int) = (0 : Int)) /\ (((0 : Int) = (0 : Int)) /\
  (((0 : Int) = (0 : Int)) /\ (((0 : Int) = (0 : Int)) /\ (((0 : Int) = (0 : Int)) /\ (((0 : Int) = (0 : Int)) /\ (((0 : Int) = (0 : Int)) /\ (((0 : Int) = (0 : Int)) /\
  (((0 : Int) = (0 : Int)) /\ (((0 : Int) = (0 : Int)) /\ (((0 : Int) = (0 : Int)) /\ (((0 : Int) = (0 : Int)) /\ (((0 : Int) = (0 : Int)) /\ (((0 : Int) = (0 : Int)) /\
  (((0 : Int) = (0 : Int)) /\ (((0 : Int) = (0 : Int)) /\ ((g.1.1 = g.1.1) /\ ((g.1.2 = g.1.2) /\ ((g.1.3 = g.1.3) /\ ((g.1.4 = g.1.4) /\ ((g.1.5 = g.1.5) /\ ((g.1.6 =
  g.1.6) /\ ((g.1.7 = g.1.7) /\ (((0 : Int) = (0 : Int)) /\ ((0 = 0) /\ True))))))))))))))))))))))))))))))))))))))))))))) (br (cellI (gC enS7 g.2) (0 + Int.toNat (↑i : Int)
  * 7) == (8 : Int)) (((((56 <= 58 /\ Plain [Value.pointer none, Value.int IntKind.i64 (0 : Int), Value.slice none 0 0, Value.pointer none, Value.int IntKind.i64 (0 : Int),
  Value.slice none 0 0, Value.pointer none, Value.int IntKind.i64 (0 : Int), Value.slice none 0 0, Value.pointer none, Value.int IntKind.i64 (0 : Int), Value.slice none 0 0,
  Value.pointer none, Value.int IntKind.i64 (0 : Int), Value.slice none 0 0, Value.pointer none, Value.int IntKind.i64 (0 : Int), Value.slice none 0 0, Value.pointer none,
  Value.int IntKind.i64 (0 : Int), Value.slice none 0 0, Value.pointer none, Value.int IntKind.i64 (0 : Int), Value.slice none 0 0]) /\ (True /\ True)) /\ ((True /\ True) /\
  (True /\ Eq (α := List Value) ([Value.pointer none, Value.int IntKind.i64 (0 : Int), Value.slice none 0 0, Value.pointer none, Value.int IntKind.i64 (0 : Int), Value.slice
  none 0 0, Value.pointer none, Value.int IntKind.i64 (0 : Int), Value.slice none 0 0, Value.pointer none, Value.int IntKind.i64 (0 : Int), Value.slice none 0 0,
  Value.pointer none, Value.int IntKind.i64 (0 : Int), Value.slice none 0 0, Value.pointer none, Value.int IntKind.i64 (0 : Int), Value.slice none 0 0, Value.pointer none,
  Value.int IntKind.i64 (0 : Int), Value.slice none 0 0, Value.pointer none, Value.int IntKind.i64 (0 : Int), Value.slice none 0 0]) ([Value.pointer none, Value.int
  IntKind.i64 (0 : Int), Value.slice none 0 0, Value.pointer none, Value.int IntKind.i64 (0 : Int), Value.slice none 0 0, Value.pointer none, Value.int IntKind.i64 (0 :
  Int), Value.slice none 0 0, Value.pointer none, Value.int IntKind.i64 (0 : Int), Value.slice none 0 0, Value.pointer none, Value.int IntKind.i64 (0 : Int), Value.slice
  none 0 0, Value.pointer none, Value.int IntKind.i64 (0 : Int), Value.slice none 0 0, Value.pointer none, Value.int IntKind.i64 (0 : Int), Value.slice none 0 0,
  Value.pointer none, Value.int IntKind.i64 (0 : Int), Value.slice none 0 0]))))) /\ ((Value.slice (some (Addr.mk 1 32 none)) 8 3 = Value.slice (some (Addr.mk 1 32 none)) 8
  3) /\ ((Value.int IntKind.i64 (cellI (gC enS7 g.2) (0 + Int.toNat (↑i : Int) * 7 + 1)) = Value.int IntKind.i64 (cellI (gC enS7 g.2) (0 + Int.toNat (↑i : Int) * 7 + 1))) /\
  (∃ j : Nat, ((Inv j) /\ ((m j < m i) /\ ((0 = 0) /\ ((List.length g.2 = List.length g.2) /\ ((0 = 0) /\ (((↑j : Int) = IntKind.wrap IntKind.i64 ((↑i : Int) + (1 : Int)))
  /\ ((Eq (α := List Value) (gC enS7 g.2) (gC enS7 g.2)) /\ ((Plain (gC enS7 g.2)) /\ ((g.1.1 = g.1.1) /\ ((g.1.2 = g.1.2) /\ ((g.1.3 = g.1.3) /\ ((g.1.4 = g.1.4) /\ ((g.1.5
  = g.1.5) /\ ((g.1.6 = g.1.6) /\ ((g.1.7 = g.1.7) /\ ((0 = 0) /\ (((0 : Int) = (0 : Int)) /\ (((0 : Int) = (0 : Int)) /\ (((0 : Int) = (0 : Int)) /\ (((0 : Int) = (0 :
  Int)) /\ (((0 : Int) = (0 : Int)) /\ (((0 : Int) = (0 : Int)) /\ (((0 : Int) = (0 : Int)) /\ (((0 : Int) = (0 : Int)) /\ (((0 : Int) = (0 : Int)) /\ (((0 : Int) = (0 :
  Int)) /\ (((0 : Int) = (0 : Int)) /\ (((0 : Int) = (0 : Int)) /\ (((0 : Int) = (0 : Int)) /\ (((0 : Int) = (0 : Int)) /\ (((0 : Int) = (0 : Int)) /\ (((0 : Int) = (0 :
  Int)) /\ ((g.1.1 = g.1.1) /\ ((g.1.2 = g.1.2) /\ ((g.1.3 = g.1.3) /\ ((g.1.4 = g.1.4) /\ ((g.1.5 = g.1.5) /\ ((g.1.6 = g.1.6) /\ ((g.1.7 = g.1.7) /\ (((0 : Int) = (0 :
  Int)) /\ ((0 = 0) /\ True))))))))))))))))))))))))))))))))))))))))))))) (br (cellI (gC enS7 g.2) (0 + Int.toNat (↑i : Int) * 7) == (9 : Int)) (((((56 <= 58 /\ Plain
  [Value.pointer none, Value.int IntKind.i64 (0 : Int), Value.slice none 0 0, Value.pointer none, Value.int IntKind.i64 (0 : Int), Value.slice none 0 0, Value.pointer none,
  Value.int IntKind.i64 (0 : Int), Value.slice none 0 0, Value.pointer none, Value.int IntKind.i64 (0 : Int), Value.slice none 0 0, Value.pointer none, Value.int IntKind.i64
  (0 : Int), Value.slice none 0 0, Value.pointer none, Value.int IntKind.i64 (0 : Int), Value.slice none 0 0, Value.pointer none, Value.int IntKind.i64 (0 : Int),
  Value.slice none 0 0, Value.pointer none, Value.int IntKind.i64 (0 : Int), Value.slice none 0 0]) /\ (True /\ True)) /\ ((True /\ True) /\ (True /\ Eq (α := List Value)
  ([Value.pointer none, Value.int IntKind.i64 (0 : Int), Value.slice none 0 0, Value.pointer none, Value.int IntKind.i64 (0 : Int), Value.slice none 0 0, Value.pointer none,
  Value.int IntKind.i64 (0 : Int), Value.slice none 0 0, Value.pointer none, Value.int IntKind.i64 (0 : Int), Value.slice none 0 0, Value.pointer none, Value.int IntKind.i64
  (0 : Int), Value.slice none 0 0, Value.pointer none, Value.int IntKind.i64 (0 : Int), Value.slice none 0 0, Value.pointer none, Value.int IntKind.i64 (0 : Int),
  Value.slice none 0 0, Value.pointer none, Value.int IntKind.i64 (0 : Int), Value.slice none 0 0]) ([Value.pointer none, Value.int IntKind.i64 (0 : Int), Value.slice none 0
  0, Value.pointer none, Value.int IntKind.i64 (0 : Int), Value.slice none 0 0, Value.pointer none, Value.int IntKind.i64 (0 : Int), Value.slice none 0 0, Value.pointer
  none, Value.int IntKind.i64 (0 : Int), Value.slice none 0 0, Value.pointer none, Value.int IntKind.i64 (0 : Int), Value.slice none 0 0, Value.pointer none, Value.int
  IntKind.i64 (0 : Int), Value.slice none 0 0, Value.pointer none, Value.int IntKind.i64 (0 : Int), Value.slice none 0 0, Value.pointer none, Value.int IntKind.i64 (0 :
  Int), Value.slice none 0 0]))))) /\ ((Value.slice (some (Addr.mk 1 32 none)) 8 3 = Value.slice (some (Addr.mk 1 32 none)) 8 3) /\ ((Value.int IntKind.i64 (cellI (gC enS7
  g.2) (0 + Int.toNat (↑i : Int) * 7 + 1)) = Value.int IntKind.i64 (cellI (gC enS7 g.2) (0 + Int.toNat (↑i : Int) * 7 + 1))) /\ (∃ j : Nat, ((Inv j) /\ ((m j < m i) /\ ((0 =
  0) /\ ((List.length g.2 = List.length g.2) /\ ((0 = 0) /\ (((↑j : Int) = IntKind.wrap IntKind.i64 ((↑i : Int) + (1 : Int))) /\ ((Eq (α := List Value) (gC enS7 g.2) (gC
  enS7 g.2)) /\ ((Plain (gC enS7 g.2)) /\ ((g.1.1 = g.1.1) /\ ((g.1.2 = g.1.2) /\ ((g.1.3 = g.1.3) /\ ((g.1.4 = g.1.4) /\ ((g.1.5 = g.1.5) /\ ((g.1.6 = g.1.6) /\ ((g.1.7 =
  g.1.7) /\ ((0 = 0) /\ (((0 : Int) = (0 : Int)) /\ (((0 : Int) = (0 : Int)) /\ (((0 : Int) = (0 : Int)) /\ (((0 : Int) = (0 : Int)) /\ (((0 : Int) = (0 : Int)) /\ (((0 :
  Int) = (0 : Int)) /\ (((0 : Int) = (0 : Int)) /\ (((0 : Int) = (0 : Int)) /\ (((0 : Int) = (0 : Int)) /\ (((0 : Int) = (0 : Int)) /\ (((0 : Int) = (0 : Int)) /\ (((0 :
  Int) = (0 : Int)) /\ (((0 : Int) = (0 : Int)) /\ (((0 : Int) = (0 : Int)) /\ (((0 : Int) = (0 : Int)) /\ (((0 : Int) = (0 : Int)) /\ ((g.1.1 = g.1.1) /\ ((g.1.2 = g.1.2)
  /\ ((g.1.3 = g.1.3) /\ ((g.1.4 = g.1.4) /\ ((g.1.5 = g.1.5) /\ ((g.1.6 = g.1.6) /\ ((g.1.7 = g.1.7) /\ (((0 : Int) = (0 : Int)) /\ ((0 = 0) /\
  True))))))))))))))))))))))))))))))))))))))))))))) (br (cellI (gC enS7 g.2) (0 + Int.toNat (↑i : Int) * 7) == (13 : Int)) (((((56 <= 58 /\ Plain [Value.pointer none,
  Value.int IntKind.i64 (0 : Int), Value.slice none 0 0, Value.pointer none, Value.int IntKind.i64 (0 : Int), Value.slice none 0 0, Value.pointer none, Value.int IntKind.i64
  (0 : Int), Value.slice none 0 0, Value.pointer none, Value.int IntKind.i64 (0 : Int), Value.slice none 0 0, Value.pointer none, Value.int IntKind.i64 (0 : Int),
  Value.slice none 0 0, Value.pointer none, Value.int IntKind.i64 (0 : Int), Value.slice none 0 0, Value.pointer none, Value.int IntKind.i64 (0 : Int), Value.slice none 0 0,
  Value.pointer none, Value.int IntKind.i64 (0 : Int), Value.slice none 0 0]) /\ (True /\ True)) /\ ((True /\ True) /\ (True /\ Eq (α := List Value) ([Value.pointer none,
  Value.int IntKind.i64 (0 : Int), Value.slice none 0 0, Value.pointer none, Value.int IntKind.i64 (0 : Int), Value.slice none 0 0, Value.pointer none, Value.int IntKind.i64
  (0 : Int), Value.slice none 0 0, Value.pointer none, Value.int IntKind.i64 (0 : Int), Value.slice none 0 0, Value.pointer none, Value.int IntKind.i64 (0 : Int),
  Value.slice none 0 0, Value.pointer none, Value.int IntKind.i64 (0 : Int), Value.slice none 0 0, Value.pointer none, Value.int IntKind.i64 (0 : Int), Value.slice none 0 0,
  Value.pointer none, Value.int IntKind.i64 (0 : Int), Value.slice none 0 0]) ([Value.pointer none, Value.int IntKind.i64 (0 : Int), Value.slice none 0 0, Value.pointer
  none, Value.int IntKind.i64 (0 : Int), Value.slice none 0 0, Value.pointer none, Value.int IntKind.i64 (0 : Int), Value.slice none 0 0, Value.pointer none, Value.int
  IntKind.i64 (0 : Int), Value.slice none 0 0, Value.pointer none, Value.int IntKind.i64 (0 : Int), Value.slice none 0 0, Value.pointer none, Value.int IntKind.i64 (0 :
  Int), Value.slice none 0 0, Value.pointer none, Value.int IntKind.i64 (0 : Int), Value.slice none 0 0, Value.pointer none, Value.int IntKind.i64 (0 : Int), Value.slice
  none 0 0]))))) /\ ((Value.slice (some (Addr.mk 1 32 none)) 8 3 = Value.slice (some (Addr.mk 1 32 none)) 8 3) /\ ((Value.int IntKind.i64 (cellI (gC enS7 g.2) (0 + Int.toNat
  (↑i : Int) * 7 + 1)) = Value.int IntKind.i64 (cellI (gC enS7 g.2) (0 + Int.toNat (↑i : Int) * 7 + 1))) /\ (∃ j : Nat, ((Inv j) /\ ((m j < m i) /\ ((0 = 0) /\ ((List.length
  g.2 = List.length g.2) /\ ((0 = 0) /\ (((↑j : Int) = IntKind.wrap IntKind.i64 ((↑i : Int) + (1 : Int))) /\ ((Eq (α := List Value) (gC enS7 g.2) (gC enS7 g.2)) /\ ((Plain
  (gC enS7 g.2)) /\ ((g.1.1 = g.1.1) /\ ((g.1.2 = g.1.2) /\ ((g.1.3 = g.1.3) /\ ((g.1.4 = g.1.4) /\ ((g.1.5 = g.1.5) /\ ((g.1.6 = g.1.6) /\ ((g.1.7 = g.1.7) /\ ((0 = 0) /\
  (((0 : Int) = (0 : Int)) /\ (((0 : Int) = (0 : Int)) /\ (((0 : Int) = (0 : Int)) /\ (((0 : Int) = (0 : Int)) /\ (((0 : Int) = (0 : Int)) /\ (((0 : Int) = (0 : Int)) /\
  (((0 : Int) = (0 : Int)) /\ (((0 : Int) = (0 : Int)) /\ (((0 : Int) = (0 : Int)) /\ (((0 : Int) = (0 : Int)) /\ (((0 : Int) = (0 : Int)) /\ (((0 : Int) = (0 : Int)) /\
  (((0 : Int) = (0 : Int)) /\ (((0 : Int) = (0 : Int)) /\ (((0 : Int) = (0 : Int)) /\ (((0 : Int) = (0 : Int)) /\ ((g.1.1 = g.1.1) /\ ((g.1.2 = g.1.2) /\ ((g.1.3 = g.1.3) /\
  ((g.1.4 = g.1.4) /\ ((g.1.5 = g.1.5) /\ ((g.1.6 = g.1.6) /\ ((g.1.7 = g.1.7) /\ (((0 : Int) = (0 : Int)) /\ ((0 = 0) /\ True)))))))))))))))))))))))))))))))))))))))))))))
  (br (cellI (gC enS7 g.2) (0 + Int.toNat (↑i : Int) * 7) == (12 : Int)) (((((56 <= 58 /\ Plain [Value.pointer none, Value.int IntKind.i64 (0 : Int), Value.slice none 0 0,
  Value.pointer none, Value.int IntKind.i64 (0 : Int), Value.slice none 0 0, Value.pointer none, Value.int IntKind.i64 (0 : Int), Value.slice none 0 0, Value.pointer none,
  Value.int IntKind.i64 (0 : Int), Value.slice none 0 0, Value.pointer none, Value.int IntKind.i64 (0 : Int), Value.slice none 0 0, Value.pointer none, Value.int IntKind.i64
  (0 : Int), Value.slice none 0 0, Value.pointer none, Value.int IntKind.i64 (0 : Int), Value.slice none 0 0, Value.pointer none, Value.int IntKind.i64 (0 : Int),
  Value.slice none 0 0]) /\ (True /\ True)) /\ ((True /\ True) /\ (True /\ Eq (α := List Value) ([Value.pointer none, Value.int IntKind.i64 (0 : Int), Value.slice none 0 0,
  Value.pointer none, Value.int IntKind.i64 (0 : Int), Value.slice none 0 0, Value.pointer none, Value.int IntKind.i64 (0 : Int), Value.slice none 0 0, Value.pointer none,
  Value.int IntKind.i64 (0 : Int), Value.slice none 0 0, Value.pointer none, Value.int IntKind.i64 (0 : Int), Value.slice none 0 0, Value.pointer none, Value.int IntKind.i64
  (0 : Int), Value.slice none 0 0, Value.pointer none, Value.int IntKind.i64 (0 : Int), Value.slice none 0 0, Value.pointer none, Value.int IntKind.i64 (0 : Int),
  Value.slice none 0 0]) ([Value.pointer none, Value.int IntKind.i64 (0 : Int), Value.slice none 0 0, Value.pointer none, Value.int IntKind.i64 (0 : Int), Value.slice none 0
  0, Value.pointer none, Value.int IntKind.i64 (0 : Int), Value.slice none 0 0, Value.pointer none, Value.int IntKind.i64 (0 : Int), Value.slice none 0 0, Value.pointer
  none, Value.int IntKind.i64 (0 : Int), Value.slice none 0 0, Value.pointer none, Value.int IntKind.i64 (0 : Int), Value.slice none 0 0, Value.pointer none, Value.int
  IntKind.i64 (0 : Int), Value.slice none 0 0, Value.pointer none, Value.int IntKind.i64 (0 : Int), Value.slice none 0 0]))))) /\ ((Value.slice (some (Addr.mk 1 32 none)) 8
  3 = Value.slice (some (Addr.mk 1 32 none)) 8 3) /\ ((Value.int IntKind.i64 (cellI (gC enS7 g.2) (0 + Int.toNat (↑i : Int) * 7 + 1)) = Value.int IntKind.i64 (cellI (gC enS7
  g.2) (0 + Int.toNat (↑i : Int) * 7 + 1))) /\ (∃ j : Nat, ((Inv j) /\ ((m j < m i) /\ ((0 = 0) /\ ((List.length g.2 = List.length g.2) /\ ((0 = 0) /\ (((↑j : Int) =
  IntKind.wrap IntKind.i64 ((↑i : Int) + (1 : Int))) /\ ((Eq (α := List Value) (gC enS7 g.2) (gC enS7 g.2)) /\ ((Plain (gC enS7 g.2)) /\ ((g.1.1 = g.1.1) /\ ((g.1.2 = g.1.2)
  /\ ((g.1.3 = g.1.3) /\ ((g.1.4 = g.1.4) /\ ((g.1.5 = g.1.5) /\ ((g.1.6 = g.1.6) /\ ((g.1.7 = g.1.7) /\ ((0 = 0) /\ (((0 : Int) = (0 : Int)) /\ (((0 : Int) = (0 : Int)) /\
  (((0 : Int) = (0 : Int)) /\ (((0 : Int) = (0 : Int)) /\ (((0 : Int) = (0 : Int)) /\ (((0 : Int) = (0 : Int)) /\ (((0 : Int) = (0 : Int)) /\ (((0 : Int) = (0 : Int)) /\
  (((0 : Int) = (0 : Int)) /\ (((0 : Int) = (0 : Int)) /\ (((0 : Int) = (0 : Int)) /\ (((0 : Int) = (0 : Int)) /\ (((0 : Int) = (0 : Int)) /\ (((0 : Int) = (0 : Int)) /\
  (((0 : Int) = (0 : Int)) /\ (((0 : Int) = (0 : Int)) /\ ((g.1.1 = g.1.1) /\ ((g.1.2 = g.1.2) /\ ((g.1.3 = g.1.3) /\ ((g.1.4 = g.1.4) /\ ((g.1.5 = g.1.5) /\ ((g.1.6 =
  g.1.6) /\ ((g.1.7 = g.1.7) /\ (((0 : Int) = (0 : Int)) /\ ((0 = 0) /\ True))))))))))))))))))))))))))))))))))))))))))))) (∃ j : Nat, ((Inv j) /\ ((m j < m i) /\ ((0 = 0) /\
  ((List.length g.2 = List.length g.2) /\ ((0 = 0) /\ (((↑j : Int) = IntKind.wrap IntKind.i64 ((↑i : Int) + (1 : Int))) /\ ((Eq (α := List Value) (gC enS7 g.2) (gC enS7
  g.2)) /\ ((Plain (gC enS7 g.2)) /\ ((g.1.1 = g.1.1) /\ ((g.1.2 = g.1.2) /\ ((g.1.3 = g.1.3) /\ ((g.1.4 = g.1.4) /\ ((g.1.5 = g.1.5) /\ ((g.1.6 = g.1.6) /\ ((g.1.7 = g.1.7)
  /\ ((0 = 0) /\ (((0 : Int) = (0 : Int)) /\ (((0 : Int) = (0 : Int)) /\ (((0 : Int) = (0 : Int)) /\ (((0 : Int) = (0 : Int)) /\ (((0 : Int) = (0 : Int)) /\ (((0 : Int) = (0
  : Int)) /\ (((0 : Int) = (0 : Int)) /\ (((0 : Int) = (0 : Int)) /\ (((0 : Int) = (0 : Int)) /\ (((0 : Int) = (0 : Int)) /\ (((0 : Int) = (0 : Int)) /\ (((0 : Int) = (0 :
  Int)) /\ (((0 : Int) = (0 : Int)) /\ (((0 : Int) = (0 : Int)) /\ (((0 : Int) = (0 : Int)) /\ (((0 : Int) = (0 : Int)) /\ ((g.1.1 = g.1.1) /\ ((g.1.2 = g.1.2) /\ ((g.1.3 =
  g.1.3) /\ ((g.1.4 = g.1.4) /\ ((g.1.5 = g.1.5) /\ ((g.1.6 = g.1.6) /\ ((g.1.7 = g.1.7) /\ (((0 : Int) = (0 : Int)) /\ ((0 = 0) /\
  True))))))))))))))))))))))))))))))))))))))))))))))))))))))))))))))) False))) False))) False)))))))))) False) (∃ y : Unit, ((True) /\ ((0 = 0) /\ ((Eq (α := List Value) (gC
  enS7 g.2) (gC enS7 g.2)) /\ ((Plain (gC enS7 g.2)) /\ ((g.1.1 = g.1.1) /\ ((g.1.2 = g.1.2) /\ ((g.1.3 = g.1.3) /\ ((g.1.4 = g.1.4) /\ ((g.1.5 = g.1.5) /\ ((g.1.6 = g.1.6)
  /\ ((g.1.7 = g.1.7) /\ ((0 = 0) /\ (((0 : Int) = (0 : Int)) /\ (((0 : Int) = (0 : Int)) /\ (((0 : Int) = (0 : Int)) /\ (((0 : Int) = (0 : Int)) /\ (((0 : Int) = (0 : Int))
  /\ (((0 : Int) = (0 : Int)) /\ (((0 : Int) = (0 : Int)) /\ (((0 : Int) = (0 : Int)) /\ (((0 : Int) = (0 : Int)) /\ (((0 : Int) = (0 : Int)) /\ (((0 : Int) = (0 : Int)) /\
  (((0 : Int) = (0 : Int)) /\ (((0 : Int) = (0 : Int)) /\ (((0 : Int) = (0 : Int)) /\ (((0 : Int) = (0 : Int)) /\ (((0 : Int) = (0 : Int)) /\ ((g.1.1 = g.1.1) /\ ((g.1.2 =
  g.1.2) /\ ((g.1.3 = g.1.3) /\ ((g.1.4 = g.1.4) /\ ((g.1.5 = g.1.5) /\ ((g.1.6 = g.1.6) /\ ((g.1.7 = g.1.7) /\ (((0 : Int) = (0 : Int)) /\ ((0 = 0) /\
  True))))))))))))))))))))))))))))))))))))))) (∃ y : Unit, ((True) /\ ((0 = 0) /\ ((Eq (α := List Value) (gC enS7 g.2) (gC enS7 g.2)) /\ ((Plain (gC enS7 g.2)) /\ ((g.1.1 =
  g.1.1) /\ ((g.1.2 = g.1.2) /\ ((g.1.3 = g.1.3) /\ ((g.1.4 = g.1.4) /\ ((g.1.5 = g.1.5) /\ ((g.1.6 = g.1.6) /\ ((g.1.7 = g.1.7) /\ ((0 = 0) /\ (((0 : Int) = (0 : Int)) /\
  (((0 : Int) = (0 : Int)) /\ (((0 : Int) = (0 : Int)) /\ (((0 : Int) = (0 : Int)) /\ (((0 : Int) = (0 : Int)) /\ (((0 : Int) = (0 : Int)) /\ (((0 : Int) = (0 : Int)) /\
  (((0 : Int) = (0 : Int)) /\ (((0 : Int) = (0 : Int)) /\ (((0 : Int) = (0 : Int)) /\ (((0 : Int) = (0 : Int)) /\ (((0 : Int) = (0 : Int)) /\ (((0 : Int) = (0 : Int)) /\
  (((0 : Int) = (0 : Int)) /\ (((0 : Int) = (0 : Int)) /\ (((0 : Int) = (0 : Int)) /\ ((g.1.1 = g.1.1) /\ ((g.1.2 = g.1.2) /\ ((g.1.3 = g.1.3) /\ ((g.1.4 = g.1.4) /\ ((g.1.5
  = g.1.5) /\ ((g.1.6 = g.1.6) /\ ((g.1.7 = g.1.7) /\ (((0 : Int) = (0 : Int)) /\ ((0 = 0) /\ True))))))))))))))))))))))))))))))))))))))) := by kernel_rfl
theorem Sn_vc (c : Cf) (l : List Sg) : mcall EN mSn 60 6 [.agg ⟨cfC c⟩, slS 0 l.length] ⟨mkR (nums 0 [gRo enS7 l]), 1⟩ (retIs 1 (.bool true) [gRo enS7 l]) =
  (br (decide (c.3 < (1 : Int))) (((True /\ (True /\ (True /\ True)))) /\ ((true = true) /\ ((Eq (α := List Value) (gC enS7 l) (gC enS7 l)) /\ ((Plain (gC enS7 l)) /\
  True)))) (br (decide (c.3 > (100 : Int))) (((True /\ (True /\ (True /\ True)))) /\ ((true = true) /\ ((Eq (α := List Value) (gC enS7 l) (gC enS7 l)) /\ ((Plain (gC enS7
  l)) /\ True)))) (br (decide (c.4 < (65535 : Int))) (((True /\ (True /\ (True /\ True)))) /\ ((true = true) /\ ((Eq (α := List Value) (gC enS7 l) (gC enS7 l)) /\ ((Plain
  (gC enS7 l)) /\ True)))) (br (decide (c.4 > (2147483647 : Int))) (((True /\ (True /\ (True /\ True)))) /\ ((true = true) /\ ((Eq (α := List Value) (gC enS7 l) (gC enS7 l))
  /\ ((Plain (gC enS7 l)) /\ True)))) (br (decide (c.5 < (1 : Int))) (((True /\ (True /\ (True /\ True)))) /\ ((true = true) /\ ((Eq (α := List Value) (gC enS7 l) (gC enS7
  l)) /\ ((Plain (gC enS7 l)) /\ True)))) (br (decide (c.5 > (1048576 : Int))) (((True /\ (True /\ (True /\ True)))) /\ ((true = true) /\ ((Eq (α := List Value) (gC enS7 l)
  (gC enS7 l)) /\ ((Plain (gC enS7 l)) /\ True)))) ((Value.agg (Array.mk [Value.int IntKind.i64 c.3, Value.int IntKind.i64 c.4, Value.int IntKind.i64 c.5]) = Value.agg
  (Array.mk [Value.int IntKind.i64 c.3, Value.int IntKind.i64 c.4, Value.int IntKind.i64 c.5])) /\ ((Value.agg (Array.mk [Value.int IntKind.i64 c.3, Value.int IntKind.i64
  c.4, Value.int IntKind.i64 c.5]) = Value.agg (Array.mk [Value.int IntKind.i64 c.3, Value.int IntKind.i64 c.4, Value.int IntKind.i64 c.5])) /\ (br (decide (c.5 < (0 :
  Int))) ((Value.slice none 0 0 = Value.slice none 0 0) /\ ((Value.slice none 0 0 = Value.slice none 0 0) /\ ((Value.agg (Array.mk [Value.int IntKind.i64 (4 : Int),
  Value.int IntKind.i64 (0 : Int), Value.int IntKind.i64 (0 : Int), Value.slice (some (Addr.mk 28 0 none)) 18 1]) = Value.agg (Array.mk [Value.int IntKind.i64 (4 : Int),
  Value.int IntKind.i64 (0 : Int), Value.int IntKind.i64 (0 : Int), Value.slice (some (Addr.mk 28 0 none)) 18 1])) /\ (br (decide (c.1 < (0 : Int))) (((True /\ (True /\
  (True /\ True)))) /\ ((true = true) /\ ((Eq (α := List Value) (gC enS7 l) (gC enS7 l)) /\ ((Plain (gC enS7 l)) /\ True)))) (br (decide (c.1 > (16777216 : Int))) (((True /\
  (True /\ (True /\ True)))) /\ ((true = true) /\ ((Eq (α := List Value) (gC enS7 l) (gC enS7 l)) /\ ((Plain (gC enS7 l)) /\ True)))) (br (decide (c.6 < (1 : Int))) (((True
  /\ (True /\ (True /\ True)))) /\ ((true = true) /\ ((Eq (α := List Value) (gC enS7 l) (gC enS7 l)) /\ ((Plain (gC enS7 l)) /\ True)))) (br (decide (c.6 > (64 : Int)))
  (((True /\ (True /\ (True /\ True)))) /\ ((true = true) /\ ((Eq (α := List Value) (gC enS7 l) (gC enS7 l)) /\ ((Plain (gC enS7 l)) /\ True)))) (br (decide (c.7 < (1 :
  Int))) (((True /\ (True /\ (True /\ True)))) /\ ((true = true) /\ ((Eq (α := List Value) (gC enS7 l) (gC enS7 l)) /\ ((Plain (gC enS7 l)) /\ True)))) (br (decide (c.7 > (8
  : Int))) (((True /\ (True /\ (True /\ True)))) /\ ((true = true) /\ ((Eq (α := List Value) (gC enS7 l) (gC enS7 l)) /\ ((Plain (gC enS7 l)) /\ True)))) (∃ g : GN, ((∀ (x :
  Sg), x ∈ GN.l g → SOk x) /\ ((0 = 0) /\ ((List.length g.2 = List.length l) /\ ((0 = 0) /\ (((0 : Int) = (0 : Int)) /\ ((Eq (α := List Value) (gC enS7 g.2) (gC enS7 l)) /\
  ((Plain (gC enS7 g.2)) /\ ((g.1.1 = c.1) /\ ((g.1.2 = c.2) /\ ((g.1.3 = c.3) /\ ((g.1.4 = c.4) /\ ((g.1.5 = c.5) /\ ((g.1.6 = c.6) /\ ((g.1.7 = c.7) /\ ((0 = 0) /\ (((0 :
  Int) = (0 : Int)) /\ (((0 : Int) = (0 : Int)) /\ (((0 : Int) = (0 : Int)) /\ (((0 : Int) = (0 : Int)) /\ (((0 : Int) = (0 : Int)) /\ (((0 : Int) = (0 : Int)) /\ (((0 :
  Int) = (0 : Int)) /\ (((0 : Int) = (0 : Int)) /\ (((0 : Int) = (0 : Int)) /\ (((0 : Int) = (0 : Int)) /\ (((0 : Int) = (0 : Int)) /\ (((0 : Int) = (0 : Int)) /\ (((0 :
  Int) = (0 : Int)) /\ (((0 : Int) = (0 : Int)) /\ (((0 : Int) = (0 : Int)) /\ (((0 : Int) = (0 : Int)) /\ ((g.1.1 = c.1) /\ ((g.1.2 = c.2) /\ ((g.1.3 = c.3) /\ ((g.1.4 =
  c.4) /\ ((g.1.5 = c.5) /\ ((g.1.6 = c.6) /\ ((g.1.7 = c.7) /\ (((0 : Int) = (0 : Int)) /\ ((0 = 0) /\ (∀ (side : Bool), (br (side) (∀ (y : Unit), ((True) → (((True /\
  (True /\ (True /\ True)))) /\ ((true = true) /\ ((Eq (α := List Value) (gC enS7 l) (gC enS7 g.2)) /\ ((Plain (gC enS7 l)) /\ True)))))) (∀ (y : Unit), ((False) → ((true =
  false) /\ ((Eq (α := List Value) (gC enS7 l) (gC enS7 g.2)) /\ ((Plain (gC enS7 l)) /\ True))))))))))))))))))))))))))))))))))))))))))))))))))))))))) (br (decide (c.5 >
  (2147483647 : Int))) ((Value.slice none 0 0 = Value.slice none 0 0) /\ ((Value.slice none 0 0 = Value.slice none 0 0) /\ ((Value.agg (Array.mk [Value.int IntKind.i64 (4 :
  Int), Value.int IntKind.i64 (0 : Int), Value.int IntKind.i64 (0 : Int), Value.slice (some (Addr.mk 28 0 none)) 18 1]) = Value.agg (Array.mk [Value.int IntKind.i64 (4 :
  Int), Value.int IntKind.i64 (0 : Int), Value.int IntKind.i64 (0 : Int), Value.slice (some (Addr.mk 28 0 none)) 18 1])) /\ (br (decide (c.1 < (0 : Int))) (((True /\ (True
  /\ (True /\ True)))) /\ ((true = true) /\ ((Eq (α := List Value) (gC enS7 l) (gC enS7 l)) /\ ((Plain (gC enS7 l)) /\ True)))) (br (decide (c.1 > (16777216 : Int))) (((True
  /\ (True /\ (True /\ True)))) /\ ((true = true) /\ ((Eq (α := List Value) (gC enS7 l) (gC enS7 l)) /\ ((Plain (gC enS7 l)) /\ True)))) (br (decide (c.6 < (1 : Int)))
  (((True /\ (True /\ (True /\ True)))) /\ ((true = true) /\ ((Eq (α := List Value) (gC enS7 l) (gC enS7 l)) /\ ((Plain (gC enS7 l)) /\ True)))) (br (decide (c.6 > (64 :
  Int))) (((True /\ (True /\ (True /\ True)))) /\ ((true = true) /\ ((Eq (α := List Value) (gC enS7 l) (gC enS7 l)) /\ ((Plain (gC enS7 l)) /\ True)))) (br (decide (c.7 < (1
  : Int))) (((True /\ (True /\ (True /\ True)))) /\ ((true = true) /\ ((Eq (α := List Value) (gC enS7 l) (gC enS7 l)) /\ ((Plain (gC enS7 l)) /\ True)))) (br (decide (c.7 >
  (8 : Int))) (((True /\ (True /\ (True /\ True)))) /\ ((true = true) /\ ((Eq (α := List Value) (gC enS7 l) (gC enS7 l)) /\ ((Plain (gC enS7 l)) /\ True)))) (∃ g : GN, ((∀
  (x : Sg), x ∈ GN.l g → SOk x) /\ ((0 = 0) /\ ((List.length g.2 = List.length l) /\ ((0 = 0) /\ (((0 : Int) = (0 : Int)) /\ ((Eq (α := List Value) (gC enS7 g.2) (gC enS7
  l)) /\ ((Plain (gC enS7 g.2)) /\ ((g.1.1 = c.1) /\ ((g.1.2 = c.2) /\ ((g.1.3 = c.3) /\ ((g.1.4 = c.4) /\ ((g.1.5 = c.5) /\ ((g.1.6 = c.6) /\ ((g.1.7 = c.7) /\ ((0 = 0) /\
  (((0 : Int) = (0 : Int)) /\ (((0 : Int) = (0 : Int)) /\ (((0 : Int) = (0 : Int)) /\ (((0 : Int) = (0 : Int)) /\ (((0 : Int) = (0 : Int)) /\ (((0 : Int) = (0 : Int)) /\
  (((0 : Int) = (0 : Int)) /\ (((0 : Int) = (0 : Int)) /\ (((0 : Int) = (0 : Int)) /\ (((0 : Int) = (0 : Int)) /\ (((0 : Int) = (0 : Int)) /\ (((0 : Int) = (0 : Int)) /\
  (((0 : Int) = (0 : Int)) /\ (((0 : Int) = (0 : Int)) /\ (((0 : Int) = (0 : Int)) /\ (((0 : Int) = (0 : Int)) /\ ((g.1.1 = c.1) /\ ((g.1.2 = c.2) /\ ((g.1.3 = c.3) /\
  ((g.1.4 = c.4) /\ ((g.1.5 = c.5) /\ ((g.1.6 = c.6) /\ ((g.1.7 = c.7) /\ (((0 : Int) = (0 : Int)) /\ ((0 = 0) /\ (∀ (side : Bool), (br (side) (∀ (y : Unit), ((True) →
  (((True /\ (True /\ (True /\ True)))) /\ ((true = true) /\ ((Eq (α := List Value) (gC enS7 l) (gC enS7 g.2)) /\ ((Plain (gC enS7 l)) /\ True)))))) (∀ (y : Unit), ((False)
  → ((true = false) /\ ((Eq (α := List Value) (gC enS7 l) (gC enS7 g.2)) /\ ((Plain (gC enS7 l)) /\ True)))))))))))))))))))))))))))))))))))))))))))))))))))))))))
  ((Value.slice none 0 0 = Value.slice none 0 0) /\ ((Value.slice none 0 0 = Value.slice none 0 0) /\ ((Value.agg (Array.mk [Value.int IntKind.i64 (4 : Int), Value.int
  IntKind.i64 (0 : Int), Value.int IntKind.i64 (0 : Int), Value.slice (some (Addr.mk 29 0 none)) 18 1]) = Value.agg (Array.mk [Value.int IntKind.i64 (4 : Int), Value.int
  IntKind.i64 (0 : Int), Value.int IntKind.i64 (0 : Int), Value.slice (some (Addr.mk 29 0 none)) 18 1])) /\ (br (decide (c.1 < (0 : Int))) (((True /\ (True /\ (True /\
  True)))) /\ ((true = true) /\ ((Eq (α := List Value) (gC enS7 l) (gC enS7 l)) /\ ((Plain (gC enS7 l)) /\ True)))) (br (decide (c.1 > (16777216 : Int))) (((True /\ (True /\
  (True /\ True)))) /\ ((true = true) /\ ((Eq (α := List Value) (gC enS7 l) (gC enS7 l)) /\ ((Plain (gC enS7 l)) /\ True)))) (br (decide (c.6 < (1 : Int))) (((True /\ (True
  /\ (True /\ True)))) /\ ((true = true) /\ ((Eq (α := List Value) (gC enS7 l) (gC enS7 l)) /\ ((Plain (gC enS7 l)) /\ True)))) (br (decide (c.6 > (64 : Int))) (((True /\
  (True /\ (True /\ True)))) /\ ((true = true) /\ ((Eq (α := List Value) (gC enS7 l) (gC enS7 l)) /\ ((Plain (gC enS7 l)) /\ True)))) (br (decide (c.7 < (1 : Int))) (((True
  /\ (True /\ (True /\ True)))) /\ ((true = true) /\ ((Eq (α := List Value) (gC enS7 l) (gC enS7 l)) /\ ((Plain (gC enS7 l)) /\ True)))) (br (decide (c.7 > (8 : Int)))
  (((True /\ (True /\ (True /\ True)))) /\ ((true = true) /\ ((Eq (α := List Value) (gC enS7 l) (gC enS7 l)) /\ ((Plain (gC enS7 l)) /\ True)))) (∃ g : GN, ((∀ (x : Sg), x ∈
  GN.l g → SOk x) /\ ((0 = 0) /\ ((List.length g.2 = List.length l) /\ ((0 = 0) /\ (((0 : Int) = (0 : Int)) /\ ((Eq (α := List Value) (gC enS7 g.2) (gC enS7 l)) /\ ((Plain
  (gC enS7 g.2)) /\ ((g.1.1 = c.1) /\ ((g.1.2 = c.2) /\ ((g.1.3 = c.3) /\ ((g.1.4 = c.4) /\ ((g.1.5 = c.5) /\ ((g.1.6 = c.6) /\ ((g.1.7 = c.7) /\ ((0 = 0) /\ (((0 : Int) =
  (0 : Int)) /\ (((0 : Int) = (0 : Int)) /\ (((0 : Int) = (0 : Int)) /\ (((0 : Int) = (0 : Int)) /\ (((0 : Int) = (0 : Int)) /\ (((0 : Int) = (0 : Int)) /\ (((0 : Int) = (0
  : Int)) /\ (((0 : Int) = (0 : Int)) /\ (((0 : Int) = (0 : Int)) /\ (((0 : Int) = (0 : Int)) /\ (((0 : Int) = (0 : Int)) /\ (((0 : Int) = (0 : Int)) /\ (((0 : Int) = (0 :
  Int)) /\ (((0 : Int) = (0 : Int)) /\ (((0 : Int) = (0 : Int)) /\ (((0 : Int) = (0 : Int)) /\ ((g.1.1 = c.1) /\ ((g.1.2 = c.2) /\ ((g.1.3 = c.3) /\ ((g.1.4 = c.4) /\
  ((g.1.5 = c.5) /\ ((g.1.6 = c.6) /\ ((g.1.7 = c.7) /\ (((0 : Int) = (0 : Int)) /\ ((0 = 0) /\ (∀ (side : Bool), (br (side) (∀ (y : Unit), ((True) → (((True /\ (True /\
  (True /\ True)))) /\ ((true = true) /\ ((Eq (α := List Value) (gC enS7 l) (gC enS7 g.2)) /\ ((Plain (gC enS7 l)) /\ True)))))) (∀ (y : Unit), ((False) → ((true = false) /\
  ((Eq (α := List Value) (gC enS7 l) (gC enS7 g.2)) /\ ((Plain (gC enS7 l)) /\ True))))))))))))))))))))))))))))))))))))))))))))))))))))))))))))))))))) := by kernel_rfl
theorem eRunsS_ok : EntOk Tryz.prog eRunsS := entC_ok (by
  intro a rows p v news h hp
  split at h <;> simp only [Option.some.injEq, Prod.mk.injEq, reduceCtorEq] at h
  obtain ⟨rfl, rfl, rfl⟩ := h
  exact Go.Proofs.YtnglilhmfhmhjaaGreatDoor.cr.sr_law)
theorem tSn_ok : ∀ x ∈ tSn, EntOk Tryz.prog x := all_cons eStp_ok (all_cons eAt_ok (all_cons eRunsS_ok (all_nil)))
theorem enS7_k (a : Sg) : (enS7 a).length = 7 := rfl
theorem enS7_p (a : Sg) : Plain (enS7 a) := by intro v hv; simp [enS7] at hv; rcases hv with rfl | rfl | rfl | rfl | rfl | rfl | rfl <;> rfl
theorem s7Pl (l : List Sg) : Plain (gC enS7 l) := gC_plain enS7_p l
theorem cZ_of {l : List Value} {i z o n e : Nat} (h : l[i]? = some (.slice (some ⟨z, o, some 0⟩) n e)) : cellZ l i = z ∧ cellO l i = o ∧ cellN l i = n := by unfold cellZ cellO cellN; rw [h]; exact ⟨rfl, rfl, rfl⟩
theorem cI_of {l : List Value} {i : Nat} {n : Int} (h : l[i]? = some (.int .i64 n)) : cellI l i = n := by unfold cellI; rw [h]
theorem Sn_piece : PieceOk EN 1 (6, pSn, specSn) := by
  refine piece_loop mixed (cut_calls (calls_envT tSn_ok)) cut_lok lm_none (n := 60) (by kernel_rfl) (fun g : GN => 0) (fun g i => i ≤ g.l.length) (fun g i => g.l.length - i) (sl := slSn) (rl := fun g _ => rlSn g) (fun g hg => Nat.zero_le _) (fun g i hg hi => ?_)
  refine (Sn_round g i _ _).mpr ?_
  simp only [ofNat_eq, toNat_cast, Nat.zero_add, Nat.add_zero, Nat.mul_one, List.drop_zero, bCells_len, bCells_drop, bCells_take, bCells_app, bCells_one, bCells_plain, List.length_replicate, List.length_append, List.length_take, List.length_drop, List.take_length, and_true, true_and, and_self, decide_true, List.length_nil, List.length_cons, Nat.sub_zero, dB_mk, dB_ro, List.take_zero]
  refine br_if (fun h => ?_) (fun h => ⟨(), s7Pl _⟩)
  refine br_if (fun h60 => ?_) (fun h => ⟨(), s7Pl _⟩)
  have hi' : i < g.l.length := by omega
  obtain ⟨f, f1, f2, f3, f4⟩ := hg _ (List.getElem_mem hi')
  have q := fun j hj => gC_get enS7_k g.l i j hi' hj
  have c0 : (gC enS7 g.l)[i * 7]? = some (.int .i64 g.l[i].k) := q 0 (by omega)
  have c1 : (gC enS7 g.l)[i * 7 + 1]? = some (.int .i64 g.l[i].a) := q 1 (by omega)
  have c2 : (gC enS7 g.l)[i * 7 + 1 + 1]? = some (.int .i64 g.l[i].b) := q 2 (by omega)
  have c3 : (gC enS7 g.l)[i * 7 + 1 + 1 + 1]? = some (.int .i64 g.l[i].c) := q 3 (by omega)
  have c4 : (gC enS7 g.l)[i * 7 + 1 + 1 + 1 + 1]? = some (.slice (some ⟨g.l[i].z, g.l[i].o, some 0⟩) g.l[i].n 3) := q 4 (by omega)
  have c5 : (gC enS7 g.l)[i * 7 + 1 + 1 + 1 + 1 + 1]? = some (.string g.l[i].t) := q 5 (by omega)
  have c6 : (gC enS7 g.l)[i * 7 + 1 + 1 + 1 + 1 + 1 + 1]? = some (.bool g.l[i].e) := q 6 (by omega)
  obtain ⟨z1, z2, z3⟩ := cZ_of c4
  have hrw : IsRw ⟨List.take (g.l[i].n * 3) (List.drop g.l[i].o (gCells g.l[i].z)), true, .cells true⟩ g.l[i].n := ⟨f, by unfold gRo; rw [f1], f2.symm⟩
  have w1 : IntKind.i64.wrap ((i : Int) + 1) = ((i + 1 : Nat) : Int) := by rw [wr64_id (by unfold I64; omega)]; omega
  have nx : ∃ j : Nat, j ≤ g.l.length ∧ g.l.length - j < g.l.length - i ∧ (j : Int) = ((i + 1 : Nat) : Int) ∧ Plain (gC enS7 g.l) := ⟨i + 1, by omega, by omega, rfl, s7Pl _⟩
  simp only [cI_of c0, cI_of c1, cI_of c2, cI_of c3, z1, z2, z3, cellS_of c5, cellB_of c6, w1]
  refine br_dec (by omega) ⟨c0, c1, c2, c3, c4, c5, c6, ⟨f4, hrw, f3⟩, br_intro (fun _ => nx) fun _ => br_dec (by omega) ⟨c0, br_intro (fun _ => nx) fun h1 => br_dec (by omega) ⟨c0, br_intro (fun _ => nx) fun h14 => br_dec (by omega) ⟨c0, c1, c2, c3, c4, c5, c6, br_nb h1 (br_nb h14 ?_)⟩⟩⟩⟩
  have pn := plN_p
  unfold plN at pn
  repeat' refine br_intro (fun _ => ?_) (fun _ => ?_)
  all_goals first
    | exact nx
    | exact ⟨⟨by omega, pn⟩, nx⟩
theorem Sn_law (c : Cf) (l : List Sg) (tl : ∀ x ∈ l, SOk x) : Con Tryz.prog 6 [.agg ⟨cfC c⟩, slS 0 l.length] [gRo enS7 l] (.bool true) [gRo enS7 l] := by
  refine con_vc (E := EN) mixed (cut_calls (calls_envT tSn_ok)) cut_lok (M := mSn) (lm_one Sn_piece) (Sn_vc c l) ?_
  simp only [ofNat_eq, toNat_cast, Nat.zero_add, Nat.add_zero, Nat.mul_one, List.drop_zero, bCells_len, bCells_drop, bCells_take, bCells_app, bCells_one, bCells_plain, List.length_replicate, List.length_append, List.length_take, List.length_drop, List.take_length, and_true, true_and, and_self, decide_true, List.length_nil, List.length_cons, Nat.sub_zero, dB_mk, dB_ro, List.take_zero]
  have pl := s7Pl l
  repeat' refine br_intro (fun _ => ?_) (fun _ => ?_)
  all_goals first
    | exact pl
    | exact ⟨⟨c, l⟩, tl, rfl, rfl, pl, rfl, rfl, rfl, rfl, rfl, rfl, rfl, rfl, rfl, rfl, rfl, rfl, rfl, rfl, fun side => by
        cases side with
        | true => exact fun _ _ => ⟨rfl, pl⟩
        | false => exact fun _ h => h.elim⟩
theorem enR_g (l : List Rw) : gAll (gC enR l) = true := by
  unfold gAll
  rw [List.all_eq_true]
  intro v hv
  obtain ⟨f, _, h⟩ := List.mem_flatMap.1 hv
  unfold enR at h
  simp only [List.mem_cons, List.mem_nil_iff, or_false] at h
  rcases h with rfl | rfl | rfl <;> rfl
theorem gs_of {Q : Nat → Prop} {M : List (List Value)} (hL : ∀ c ∈ M, GCells Q [.p (.i .i64), .p (.i .i64), .p (.i .i64), .p (.i .i64), .sl 34 47 [.s, .s, .i .i64], .p .s, .p .b] c) :
    ∃ a : List Sg, a.length = M.length ∧ M.flatten = gC enS7 a ∧ ∀ x ∈ a, SOk x := by
  induction M with
  | nil => exact ⟨[], rfl, rfl, fun x hx => by simp at hx⟩
  | cons c M ih =>
    obtain ⟨a, h1, h2, h3⟩ := ih (fun d hd => hL d (List.mem_cons_of_mem _ hd))
    have hc := hL c (List.mem_cons_self ..)
    match c, hc with
    | [v0, v1, v2, v3, v4, v5, v6], hc =>
      obtain ⟨f0, f1, f2, f3, f4, f5, f6, _⟩ := hc
      obtain ⟨k, rfl, _⟩ := cq_i f0
      obtain ⟨n1, rfl, _⟩ := cq_i f1
      obtain ⟨n2, rfl, _⟩ := cq_i f2
      obtain ⟨n3, rfl, _⟩ := cq_i f3
      obtain ⟨n, cells, rfl, hel, hm, hq⟩ := f4
      obtain ⟨b, rfl, _, _⟩ := cq_s f5
      obtain ⟨e, rfl⟩ := cq_b f6
      obtain ⟨fs, y1, y2, y3⟩ := hel.data (α := Rw) enR (fun f => True) (fun c hc => by
        match c, hc with
        | [x, y, z], hc =>
          obtain ⟨c1, c2, c3, _⟩ := hc
          obtain ⟨s, rfl, _, _⟩ := cq_s c1
          obtain ⟨t, rfl, _, _⟩ := cq_s c2
          obtain ⟨u, rfl, _⟩ := cq_i c3
          exact ⟨⟨L s, L t, u⟩, rfl, trivial⟩)
      have y2 : cells = gC enR fs := y2
      have hz : gCells (gCode cells) = cells := gCells_code (by rw [y2]; exact enR_g fs)
      refine ⟨⟨k, n1, n2, n3, gCode cells, 0, n, b, e⟩ :: a, by rw [List.length_cons, List.length_cons, h1], by rw [List.flatten_cons, h2, gC_cons]; rfl, ?_⟩
      intro x hx
      rcases List.mem_cons.1 hx with rfl | hx
      · refine ⟨fs, ?_, y1, hm, ?_⟩
        · simp only [hz, List.drop_zero]
          rw [y2]
          have hle : (gC enR fs).length ≤ n * 3 := by have := gC_len enR_k fs; omega
          exact List.take_of_length_le hle
        · simp only [hz]
          have := gC_len enR_k fs
          rw [y2]; omega
      · exact h3 x hx
theorem Sn_law2 (b : Int) (s : Nat) (st w i t u : Int) (l : List Sg) (_ : I64 b) (_ : I64 st) (_ : I64 w) (_ : I64 i) (_ : I64 t) (_ : I64 u) (_ : l.length ≤ maxLen) (tl : ∀ x ∈ l, SOk x) : Con Tryz.prog 6 [.agg ⟨[.int .i64 b, .float .f64 s, .int .i64 st, .int .i64 w, .int .i64 i, .int .i64 t, .int .i64 u]⟩, slS 0 l.length] [gRo enS7 l] (.bool true) [gRo enS7 l] := Sn_law ⟨b, s, st, w, i, t, u⟩ l tl
end Go.Proofs.YtnglilhmfhmhjaaGreatDoor.sn
