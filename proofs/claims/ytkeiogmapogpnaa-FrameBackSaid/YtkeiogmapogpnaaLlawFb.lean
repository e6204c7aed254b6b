/- FrameBack: frames that are written one behind the other are told again. -/
import Derived.Test.YtkeiogmapogpnaaSz9
import Derived.Test.YtkeiogmapogpnaaRows
import Derived.Test.YtkeiogmapogpnaaLfb
import Derived.Test.YtkeiogmapogpnaaLints
set_option linter.unusedSimpArgs false
set_option linter.unusedVariables false
namespace Go.Proofs.Ytkeiogmapogpnaa.fe
open Go Go.Ev Go.Sy Go.RowKit Go.Proofs.Ytkeiogmapogpnaa.s9 Go.Proofs.Ytkeiogmapogpnaa.fd Go.Proofs.Ytkeiogmapogpnaa.gl Go.Proofs.Ytkeiogmapogpnaa.ic
structure Af where
  t : Int
  f : Int
  s : Int
  p : List UInt8
noncomputable def enA (a : Af) : List Value := [.int .i64 a.t, .int .i64 a.f, .int .i64 a.s, .slice (some ⟨gCode (bCells a.p), 0, some 0⟩) a.p.length 1]
def AOk (a : Af) : Prop := I64 a.t ∧ I64 a.f ∧ I64 a.s ∧ a.p.length ≤ maxLen
def pB1 : List Nat := [0, 1, 0, 1, 1, 1, 1]
def pB2 : List Nat := [0, 0, 1, 1, 1, 1, 1, 1, 1, 1, 1]
structure Gb where
  l : List Af
  c : Int
structure Sb where
  i : Nat
  b : List UInt8
  w : List Gf
  e : List Int
def slB (g : Gb) (s : Sb) : List (Nat × Value) := [(0, slc4 0 g.l.length), (1, .int .i64 g.c), (5, slc 1 s.b.length), (6, slc4 2 s.w.length), (7, slc 3 s.e.length), (8, .int .i64 (s.i : Nat))]
noncomputable def rlB (g : Gb) (s : Sb) : List (Nat × Row) := [(0, gRo enA g.l), (1, bOwn s.b), (2, gOwn enH s.w), (3, iOwn .i64 s.e)]
def IsL (b : List UInt8) (w : List Gf) (e : List Int) (L : List Bf) : Prop := (∀ a ∈ L, Rt a) ∧ b = wires L ∧ e = ends 0 L ∧ w.map vw = (L.map toG).map vw ∧ (∀ x ∈ w, FOk x) ∧ w.length = L.length
def InvB (g : Gb) (s : Sb) : Prop := s.i ≤ g.l.length ∧ ∃ L : List Bf, L.length ≤ s.i ∧ L.length ≤ 20 ∧ s.b.length ≤ 309 * s.i ∧ s.i ≤ 20 ∧ IsL s.b s.w s.e L
noncomputable def wsB (g : Gb) : List (Gate Sb) := [⟨.exit 0, fun s => InvB g s, fun s => [(1, .int .i64 g.c), (5, slc 1 s.b.length), (6, slc4 2 s.w.length), (7, slc 3 s.e.length)], fun s => rlB g s, 4⟩]
def b0 : Sb := ⟨0, [], [], []⟩
noncomputable def specB : Sy.Spec := specOf 1 4 141 (fun g : Gb => ∀ x ∈ g.l, AOk x) (fun g => slB g b0) (fun g => rlB g b0) wsB
def rd0 : Row := ⟨[.slice none 0 0, .int .i64 16384, .string ⟨#[]⟩, .int .i64 0, .int .i64 0, .int .i64 0], false, .cells false⟩
structure Gd where
  l : List Af
  b : List UInt8
  w : List Gf
  e : List Int
  k : Nat
def slD (g : Gd) (n : Nat) : List (Nat × Value) := [(5, slc 1 g.b.length), (6, slc4 2 g.w.length), (7, slc 3 g.e.length), (11, .pointer (some ⟨4, 0, none⟩)), (13, .int .i64 (g.k : Nat)), (14, .int .i64 (n : Nat))]
noncomputable def rlD (g : Gd) : List (Nat × Row) := [(0, gRo enA g.l), (1, bOwn g.b), (2, gOwn enH g.w), (3, iOwn .i64 g.e), (4, rd0)]
def DoneD (g : Gd) (n : Nat) : Prop := n ≤ g.e.length ∧ (∀ j < n, g.e.getD j 0 ≤ (g.k : Int)) ∧ (n < g.e.length → (g.k : Int) < g.e.getD n 0)
noncomputable def wsD (g : Gd) : List (Gate Nat) := [⟨.exit 2, fun n => DoneD g n, fun n => slD g n, fun _ => rlD g, 5⟩]
noncomputable def specD : Sy.Spec := specOf 1 5 141 (fun g : Gd => g.e.length ≤ 20) (fun g => slD g 0) (fun g => rlD g) wsD
noncomputable def mB := mOf [(7, pB1, specB), (7, pB2, specD)]
noncomputable def tB : List EntM := [eWiF, eRunF, ePut, eFeed, eSameF]
noncomputable abbrev EtB : Env := envT Try.prog tB
theorem B_round (g : Gb) (s : Sb) (Inv : Sb → Prop) (q : Sb → Nat) : mev EtB noM 60 7 (0 :: pB1) false (codeOf Try.prog 7 (0 :: pB1)) ⟨mkOv (slB g s), 141, []⟩ none ⟨mkR (rlB g s), 4⟩ (roundK 1 4 141 Inv q (slB g) (rlB g) (wsB g) s) =
  (br (decide ((↑s.1 : Int) < Int.ofNat (List.length g.1))) (br (decide ((↑s.1 : Int) < (20 : Int))) (br (decide ((0 : Int) <= (↑s.1 : Int) /\ (↑s.1 : Int) < (↑(List.length
  g.1) : Int))) ((Eq (α := Option Value) ((gC enA g.1)[0 + Int.toNat (↑s.1 : Int) * 4]?) (some (Value.int IntKind.i64 (cellI (gC enA g.1) (0 + Int.toNat (↑s.1 : Int) *
  4))))) /\ ((Eq (α := Option Value) ((gC enA g.1)[0 + Int.toNat (↑s.1 : Int) * 4 + 1]?) (some (Value.int IntKind.i64 (cellI (gC enA g.1) (0 + Int.toNat (↑s.1 : Int) * 4 +
  1))))) /\ ((Eq (α := Option Value) ((gC enA g.1)[0 + Int.toNat (↑s.1 : Int) * 4 + 1 + 1]?) (some (Value.int IntKind.i64 (cellI (gC enA g.1) (0 + Int.toNat (↑s.1 : Int) * 4
  + 1 + 1))))) /\ ((Eq (α := Option Value) ((gC enA g.1)[0 + Int.toNat (↑s.1 : Int) * 4 + 1 + 1 + 1]?) (some (Value.slice (some (Addr.mk (cellZ (gC enA g.1) (0 + Int.toNat
  (↑s.1 : Int) * 4 + 1 + 1 + 1)) (cellO (gC enA g.1) (0 + Int.toNat (↑s.1 : Int) * 4 + 1 + 1 + 1)) (some 0))) (cellN (gC enA g.1) (0 + Int.toNat (↑s.1 : Int) * 4 + 1 + 1 +
  1)) 1))) /\ (br (decide (Int.ofNat (cellN (gC enA g.1) (0 + Int.toNat (↑s.1 : Int) * 4 + 1 + 1 + 1)) > (300 : Int))) (br (decide ((0 : Int) <= (↑0 : Int) /\ (↑0 : Int) <=
  (300 : Int) /\ (300 : Int) <= (↑(cellN (gC enA g.1) (0 + Int.toNat (↑s.1 : Int) * 4 + 1 + 1 + 1)) : Int))) (((((0 + List.length s.2 * 1 <= List.length (bCells s.2) /\
  Plain (List.take (List.length s.2 * 1) (List.drop 0 (bCells s.2)))) /\ ((True /\ (True /\ (True /\ (cellO (gC enA g.1) (0 + Int.toNat (↑s.1 : Int) * 4 + 1 + 1 + 1) + 0 +
  300 <= List.length (gCells (cellZ (gC enA g.1) (0 + Int.toNat (↑s.1 : Int) * 4 + 1 + 1 + 1))) /\ True)))) /\ True)) /\ ((True /\ (True /\ True)) /\ ((Plain (bCells (zP
  (Row.mk (List.take (List.length s.2 * 1) (List.drop 0 (bCells s.2))) true (Ob.cells true)) (Row.mk (List.take 300 (List.drop (cellO (gC enA g.1) (0 + Int.toNat (↑s.1 :
  Int) * 4 + 1 + 1 + 1) + 0) (gCells (cellZ (gC enA g.1) (0 + Int.toNat (↑s.1 : Int) * 4 + 1 + 1 + 1))))) true (Ob.cells true)) (cellI (gC enA g.1) (0 + Int.toNat (↑s.1 :
  Int) * 4)) (cellI (gC enA g.1) (0 + Int.toNat (↑s.1 : Int) * 4 + 1)) (cellI (gC enA g.1) (0 + Int.toNat (↑s.1 : Int) * 4 + 1 + 1)))) /\ True) /\ (IsB (Row.mk (List.take
  (List.length s.2 * 1) (List.drop 0 (bCells s.2))) true (Ob.cells true)) (List.length s.2) /\ (IsB (Row.mk (List.take 300 (List.drop (cellO (gC enA g.1) (0 + Int.toNat
  (↑s.1 : Int) * 4 + 1 + 1 + 1) + 0) (gCells (cellZ (gC enA g.1) (0 + Int.toNat (↑s.1 : Int) * 4 + 1 + 1 + 1))))) true (Ob.cells true)) 300 /\ (List.length s.2 <= 2000000 /\
  Int.toNat (300 : Int) - Int.toNat (↑0 : Int) <= 1000000))))))) /\ (br (decide (Int.ofNat (zPn (Row.mk (List.take (List.length s.2 * 1) (List.drop 0 (bCells s.2))) true
  (Ob.cells true)) (Row.mk (List.take 300 (List.drop (cellO (gC enA g.1) (0 + Int.toNat (↑s.1 : Int) * 4 + 1 + 1 + 1) + 0) (gCells (cellZ (gC enA g.1) (0 + Int.toNat (↑s.1 :
  Int) * 4 + 1 + 1 + 1))))) true (Ob.cells true)) (cellI (gC enA g.1) (0 + Int.toNat (↑s.1 : Int) * 4)) (cellI (gC enA g.1) (0 + Int.toNat (↑s.1 : Int) * 4 + 1)) (cellI (gC
  enA g.1) (0 + Int.toNat (↑s.1 : Int) * 4 + 1 + 1))) > Int.ofNat (List.length s.2))) (br (decide (List.length s.3 + 1 <= 16777216)) (br (decide (0 + List.length s.3 * 4 <=
  List.length (gC enH s.3))) (br (decide (List.length s.4 + 1 <= 16777216)) (br (decide (0 + List.length s.4 * 1 <= List.length (iCells IntKind.i64 s.4))) (∃ j : Sb, ((Inv
  j) /\ ((q j < q s) /\ ((0 = 0) /\ ((List.length g.1 = List.length g.1) /\ ((g.2 = g.2) /\ ((0 = 0) /\ ((List.length j.2 = zPn (Row.mk (List.take (List.length s.2 * 1)
  (List.drop 0 (bCells s.2))) true (Ob.cells true)) (Row.mk (List.take 300 (List.drop (cellO (gC enA g.1) (0 + Int.toNat (↑s.1 : Int) * 4 + 1 + 1 + 1) + 0) (gCells (cellZ
  (gC enA g.1) (0 + Int.toNat (↑s.1 : Int) * 4 + 1 + 1 + 1))))) true (Ob.cells true)) (cellI (gC enA g.1) (0 + Int.toNat (↑s.1 : Int) * 4)) (cellI (gC enA g.1) (0 +
  Int.toNat (↑s.1 : Int) * 4 + 1)) (cellI (gC enA g.1) (0 + Int.toNat (↑s.1 : Int) * 4 + 1 + 1))) /\ ((0 = 0) /\ ((List.length j.3 = List.length s.3 + 1) /\ ((0 = 0) /\
  ((List.length j.4 = List.length s.4 + 1) /\ (((↑j.1 : Int) = IntKind.wrap IntKind.i64 ((↑s.1 : Int) + (1 : Int))) /\ ((Eq (α := List Value) (gC enA g.1) (gC enA g.1)) /\
  ((Plain (gC enA g.1)) /\ ((Eq (α := List Value) (bCells j.2) (bCells (zP (Row.mk (List.take (List.length s.2 * 1) (List.drop 0 (bCells s.2))) true (Ob.cells true)) (Row.mk
  (List.take 300 (List.drop (cellO (gC enA g.1) (0 + Int.toNat (↑s.1 : Int) * 4 + 1 + 1 + 1) + 0) (gCells (cellZ (gC enA g.1) (0 + Int.toNat (↑s.1 : Int) * 4 + 1 + 1 +
  1))))) true (Ob.cells true)) (cellI (gC enA g.1) (0 + Int.toNat (↑s.1 : Int) * 4)) (cellI (gC enA g.1) (0 + Int.toNat (↑s.1 : Int) * 4 + 1)) (cellI (gC enA g.1) (0 +
  Int.toNat (↑s.1 : Int) * 4 + 1 + 1))))) /\ ((Plain (bCells j.2)) /\ ((Eq (α := List Value) (gC enH j.3) (List.take (List.length s.3 * 4) (List.drop 0 (gC enH s.3)) ++
  [Value.int IntKind.i64 (cellI (gC enA g.1) (0 + Int.toNat (↑s.1 : Int) * 4)), Value.int IntKind.i64 (cellI (gC enA g.1) (0 + Int.toNat (↑s.1 : Int) * 4 + 1)), Value.int
  IntKind.i64 (cellI (gC enA g.1) (0 + Int.toNat (↑s.1 : Int) * 4 + 1 + 1)), Value.slice (some (Addr.mk (cellZ (gC enA g.1) (0 + Int.toNat (↑s.1 : Int) * 4 + 1 + 1 + 1))
  (cellO (gC enA g.1) (0 + Int.toNat (↑s.1 : Int) * 4 + 1 + 1 + 1) + 0) (some 0))) 300 1])) /\ ((Plain (gC enH j.3)) /\ ((Eq (α := List Value) (iCells IntKind.i64 j.4)
  (List.take (List.length s.4 * 1) (List.drop 0 (iCells IntKind.i64 s.4)) ++ [Value.int IntKind.i64 (Int.ofNat (zPn (Row.mk (List.take (List.length s.2 * 1) (List.drop 0
  (bCells s.2))) true (Ob.cells true)) (Row.mk (List.take 300 (List.drop (cellO (gC enA g.1) (0 + Int.toNat (↑s.1 : Int) * 4 + 1 + 1 + 1) + 0) (gCells (cellZ (gC enA g.1) (0
  + Int.toNat (↑s.1 : Int) * 4 + 1 + 1 + 1))))) true (Ob.cells true)) (cellI (gC enA g.1) (0 + Int.toNat (↑s.1 : Int) * 4)) (cellI (gC enA g.1) (0 + Int.toNat (↑s.1 : Int) *
  4 + 1)) (cellI (gC enA g.1) (0 + Int.toNat (↑s.1 : Int) * 4 + 1 + 1))))])) /\ ((Plain (iCells IntKind.i64 j.4)) /\ True))))))))))))))))))))) False) False) False) False) (∃
  j : Sb, ((Inv j) /\ ((q j < q s) /\ ((0 = 0) /\ ((List.length g.1 = List.length g.1) /\ ((g.2 = g.2) /\ ((0 = 0) /\ ((List.length j.2 = zPn (Row.mk (List.take (List.length
  s.2 * 1) (List.drop 0 (bCells s.2))) true (Ob.cells true)) (Row.mk (List.take 300 (List.drop (cellO (gC enA g.1) (0 + Int.toNat (↑s.1 : Int) * 4 + 1 + 1 + 1) + 0) (gCells
  (cellZ (gC enA g.1) (0 + Int.toNat (↑s.1 : Int) * 4 + 1 + 1 + 1))))) true (Ob.cells true)) (cellI (gC enA g.1) (0 + Int.toNat (↑s.1 : Int) * 4)) (cellI (gC enA g.1) (0 +
  Int.toNat (↑s.1 : Int) * 4 + 1)) (cellI (gC enA g.1) (0 + Int.toNat (↑s.1 : Int) * 4 + 1 + 1))) /\ ((0 = 0) /\ ((List.length j.3 = List.length s.3) /\ ((0 = 0) /\
  ((List.length j.4 = List.length s.4) /\ (((↑j.1 : Int) = IntKind.wrap IntKind.i64 ((↑s.1 : Int) + (1 : Int))) /\ ((Eq (α := List Value) (gC enA g.1) (gC enA g.1)) /\
  ((Plain (gC enA g.1)) /\ ((Eq (α := List Value) (bCells j.2) (bCells (zP (Row.mk (List.take (List.length s.2 * 1) (List.drop 0 (bCells s.2))) true (Ob.cells true)) (Row.mk
  (List.take 300 (List.drop (cellO (gC enA g.1) (0 + Int.toNat (↑s.1 : Int) * 4 + 1 + 1 + 1) + 0) (gCells (cellZ (gC enA g.1) (0 + Int.toNat (↑s.1 : Int) * 4 + 1 + 1 +
  1))))) true (Ob.cells true)) (cellI (gC enA g.1) (0 + Int.toNat (↑s.1 : Int) * 4)) (cellI (gC enA g.1) (0 + Int.toNat (↑s.1 : Int) * 4 + 1)) (cellI (gC enA g.1) (0 +
  Int.toNat (↑s.1 : Int) * 4 + 1 + 1))))) /\ ((Plain (bCells j.2)) /\ ((Eq (α := List Value) (gC enH j.3) (gC enH s.3)) /\ ((Plain (gC enH j.3)) /\ ((Eq (α := List Value)
  (iCells IntKind.i64 j.4) (iCells IntKind.i64 s.4)) /\ ((Plain (iCells IntKind.i64 j.4)) /\ True))))))))))))))))))))))) False) (((((0 + List.length s.2 * 1 <= List.length
  (bCells s.2) /\ Plain (List.take (List.length s.2 * 1) (List.drop 0 (bCells s.2)))) /\ ((True /\ (True /\ (True /\ (cellO (gC enA g.1) (0 + Int.toNat (↑s.1 : Int) * 4 + 1
  + 1 + 1) + cellN (gC enA g.1) (0 + Int.toNat (↑s.1 : Int) * 4 + 1 + 1 + 1) * 1 <= List.length (gCells (cellZ (gC enA g.1) (0 + Int.toNat (↑s.1 : Int) * 4 + 1 + 1 + 1))) /\
  True)))) /\ True)) /\ ((True /\ (True /\ True)) /\ ((Plain (bCells (zP (Row.mk (List.take (List.length s.2 * 1) (List.drop 0 (bCells s.2))) true (Ob.cells true)) (Row.mk
  (List.take (cellN (gC enA g.1) (0 + Int.toNat (↑s.1 : Int) * 4 + 1 + 1 + 1) * 1) (List.drop (cellO (gC enA g.1) (0 + Int.toNat (↑s.1 : Int) * 4 + 1 + 1 + 1)) (gCells
  (cellZ (gC enA g.1) (0 + Int.toNat (↑s.1 : Int) * 4 + 1 + 1 + 1))))) true (Ob.cells true)) (cellI (gC enA g.1) (0 + Int.toNat (↑s.1 : Int) * 4)) (cellI (gC enA g.1) (0 +
  Int.toNat (↑s.1 : Int) * 4 + 1)) (cellI (gC enA g.1) (0 + Int.toNat (↑s.1 : Int) * 4 + 1 + 1)))) /\ True) /\ (IsB (Row.mk (List.take (List.length s.2 * 1) (List.drop 0
  (bCells s.2))) true (Ob.cells true)) (List.length s.2) /\ (IsB (Row.mk (List.take (cellN (gC enA g.1) (0 + Int.toNat (↑s.1 : Int) * 4 + 1 + 1 + 1) * 1) (List.drop (cellO
  (gC enA g.1) (0 + Int.toNat (↑s.1 : Int) * 4 + 1 + 1 + 1)) (gCells (cellZ (gC enA g.1) (0 + Int.toNat (↑s.1 : Int) * 4 + 1 + 1 + 1))))) true (Ob.cells true)) (cellN (gC
  enA g.1) (0 + Int.toNat (↑s.1 : Int) * 4 + 1 + 1 + 1)) /\ (List.length s.2 <= 2000000 /\ cellN (gC enA g.1) (0 + Int.toNat (↑s.1 : Int) * 4 + 1 + 1 + 1) <= 1000000)))))))
  /\ (br (decide (Int.ofNat (zPn (Row.mk (List.take (List.length s.2 * 1) (List.drop 0 (bCells s.2))) true (Ob.cells true)) (Row.mk (List.take (cellN (gC enA g.1) (0 +
  Int.toNat (↑s.1 : Int) * 4 + 1 + 1 + 1) * 1) (List.drop (cellO (gC enA g.1) (0 + Int.toNat (↑s.1 : Int) * 4 + 1 + 1 + 1)) (gCells (cellZ (gC enA g.1) (0 + Int.toNat (↑s.1
  : Int) * 4 + 1 + 1 + 1))))) true (Ob.cells true)) (cellI (gC enA g.1) (0 + Int.toNat (↑s.1 : Int) * 4)) (cellI (gC enA g.1) (0 + Int.toNat (↑s.1 : Int) * 4 + 1)) (cellI
  (gC enA g.1) (0 + Int.toNat (↑s.1 : Int) * 4 + 1 + 1))) > Int.ofNat (List.length s.2))) (br (decide (List.length s.3 + 1 <= 16777216)) (br (decide (0 + List.length s.3 * 4
  <= List.length (gC enH s.3))) (br (decide (List.length s.4 + 1 <= 16777216)) (br (decide (0 + List.length s.4 * 1 <= List.length (iCells IntKind.i64 s.4))) (∃ j : Sb,
  ((Inv j) /\ ((q j < q s) /\ ((0 = 0) /\ ((List.length g.1 = List.length g.1) /\ ((g.2 = g.2) /\ ((0 = 0) /\ ((List.length j.2 = zPn (Row.mk (List.take (List.length s.2 *
  1) (List.drop 0 (bCells s.2))) true (Ob.cells true)) (Row.mk (List.take (cellN (gC enA g.1) (0 + Int.toNat (↑s.1 : Int) * 4 + 1 + 1 + 1) * 1) (List.drop (cellO (gC enA
  g.1) (0 + Int.toNat (↑s.1 : Int) * 4 + 1 + 1 + 1)) (gCells (cellZ (gC enA g.1) (0 + Int.toNat (↑s.1 : Int) * 4 + 1 + 1 + 1))))) true (Ob.cells true)) (cellI (gC enA g.1)
  (0 + Int.toNat (↑s.1 : Int) * 4)) (cellI (gC enA g.1) (0 + Int.toNat (↑s.1 : Int) * 4 + 1)) (cellI (gC enA g.1) (0 + Int.toNat (↑s.1 : Int) * 4 + 1 + 1))) /\ ((0 = 0) /\
  ((List.length j.3 = List.length s.3 + 1) /\ ((0 = 0) /\ ((List.length j.4 = List.length s.4 + 1) /\ (((↑j.1 : Int) = IntKind.wrap IntKind.i64 ((↑s.1 : Int) + (1 : Int)))
  /\ ((Eq (α := List Value) (gC enA g.1) (gC enA g.1)) /\ ((Plain (gC enA g.1)) /\ ((Eq (α := List Value) (bCells j.2) (bCells (zP (Row.mk (List.take (List.length s.2 * 1)
  (List.drop 0 (bCells s.2))) true (Ob.cells true)) (Row.mk (List.take (cellN (gC enA g.1) (0 + Int.toNat (↑s.1 : Int) * 4 + 1 + 1 + 1) * 1) (List.drop (cellO (gC enA g.1)
  (0 + Int.toNat (↑s.1 : Int) * 4 + 1 + 1 + 1)) (gCells (cellZ (gC enA g.1) (0 + Int.toNat (↑s.1 : Int) * 4 + 1 + 1 + 1))))) true (Ob.cells true)) (cellI (gC enA g.1) (0 +
  Int.toNat (↑s.1 : Int) * 4)) (cellI (gC enA g.1) (0 + Int.toNat (↑s.1 : Int) * 4 + 1)) (cellI (gC enA g.1) (0 + Int.toNat (↑s.1 : Int) * 4 + 1 + 1))))) /\ ((Plain (bCells
  j.2)) /\ ((Eq (α := List Value) (gC enH j.3) (List.take (List.length s.3 * 4) (List.drop 0 (gC enH s.3)) ++ [Value.int IntKind.i64 (cellI (gC enA g.1) (0 + Int.toNat (↑s.1
  : Int) * 4)), Value.int IntKind.i64 (cellI (gC enA g.1) (0 + Int.toNat (↑s.1 : Int) * 4 + 1)), Value.int IntKind.i64 (cellI (gC enA g.1) (0 + Int.toNat (↑s.1 : Int) * 4 +
  1 + 1)), Value.slice (some (Addr.mk (cellZ (gC enA g.1) (0 + Int.toNat (↑s.1 : Int) * 4 + 1 + 1 + 1)) (cellO (gC enA g.1) (0 + Int.toNat (↑s.1 : Int) * 4 + 1 + 1 + 1))
  (some 0))) (cellN (gC enA g.1) (0 + Int.toNat (↑s.1 : Int) * 4 + 1 + 1 + 1)) 1])) /\ ((Plain (gC enH j.3)) /\ ((Eq (α := List Value) (iCells IntKind.i64 j.4) (List.take
  (List.length s.4 * 1) (List.drop 0 (iCells IntKind.i64 s.4)) ++ [Value.int IntKind.i64 (Int.ofNat (zPn (Row.mk (List.take (List.length s.2 * 1) (List.drop 0 (bCells s.2)))
  true (Ob.cells true)) (Row.mk (List.take (cellN (gC enA g.1) (0 + Int.toNat (↑s.1 : Int) * 4 + 1 + 1 + 1) * 1) (List.drop (cellO (gC enA g.1) (0 + Int.toNat (↑s.1 : Int) *
  4 + 1 + 1 + 1)) (gCells (cellZ (gC enA g.1) (0 + Int.toNat (↑s.1 : Int) * 4 + 1 + 1 + 1))))) true (Ob.cells true)) (cellI (gC enA g.1) (0 + Int.toNat (↑s.1 : Int) * 4))
  (cellI (gC enA g.1) (0 + Int.toNat (↑s.1 : Int) * 4 + 1)) (cellI (gC enA g.1) (0 + Int.toNat (↑s.1 : Int) * 4 + 1 + 1))))])) /\ ((Plain (iCells IntKind.i64 j.4)) /\
  True))))))))))))))))))))) False) False) False) False) (∃ j : Sb, ((Inv j) /\ ((q j < q s) /\ ((0 = 0) /\ ((List.length g.1 = List.length g.1) /\ ((g.2 = g.2) /\ ((0 = 0)
  /\ ((List.length j.2 = zPn (Row.mk (List.take (List.length s.2 * 1) (List.drop 0 (bCells s.2))) true (Ob.cells true)) (Row.mk (List.take (cellN (gC enA g.1) (0 + Int.toNat
  (↑s.1 : Int) * 4 + 1 + 1 + 1) * 1) (List.drop (cellO (gC enA g.1) (0 + Int.toNat (↑s.1 : Int) * 4 + 1 + 1 + 1)) (gCells (cellZ (gC enA g.1) (0 + Int.toNat (↑s.1 : Int) * 4
  + 1 + 1 + 1))))) true (Ob.cells true)) (cellI (gC enA g.1) (0 + Int.toNat (↑s.1 : Int) * 4)) (cellI (gC enA g.1) (0 + Int.toNat (↑s.1 : Int) * 4 + 1)) (cellI (gC enA g.1)
  (0 + Int.toNat (↑s.1 : Int) * 4 + 1 + 1))) /\ ((0 = 0) /\ ((List.length j.3 = List.length s.3) /\ ((0 = 0) /\ ((List.length j.4 = List.length s.4) /\ (((↑j.1 : Int) =
  IntKind.wrap IntKind.i64 ((↑s.1 : Int) + (1 : Int))) /\ ((Eq (α := List Value) (gC enA g.1) (gC enA g.1)) /\ ((Plain (gC enA g.1)) /\ ((Eq (α := List Value) (bCells j.2)
  (bCells (zP (Row.mk (List.take (List.length s.2 * 1) (List.drop 0 (bCells s.2))) true (Ob.cells true)) (Row.mk (List.take (cellN (gC enA g.1) (0 + Int.toNat (↑s.1 : Int) *
  4 + 1 + 1 + 1) * 1) (List.drop (cellO (gC enA g.1) (0 + Int.toNat (↑s.1 : Int) * 4 + 1 + 1 + 1)) (gCells (cellZ (gC enA g.1) (0 + Int.toNat (↑s.1 : Int) * 4 + 1 + 1 +
  1))))) true (Ob.cells true)) (cellI (gC enA g.1) (0 + Int.toNat (↑s.1 : Int) * 4)) (cellI (gC enA g.1) (0 + Int.toNat (↑s.1 : Int) * 4 + 1)) (cellI (gC enA g.1) (0 +
  Int.toNat (↑s.1 : Int) * 4 + 1 + 1))))) /\ ((Plain (bCells j.2)) /\ ((Eq (α := List Value) (gC enH j.3) (gC enH s.3)) /\ ((Plain (gC enH j.3)) /\ ((Eq (α := List Value)
  (iCells IntKind.i64 j.4) (iCells IntKind.i64 s.4)) /\ ((Plain (iCells IntKind.i64 j.4)) /\ True)))))))))))))))))))))))))))) False) (∃ y : Sb, ((InvB g y) /\ ((g.2 = g.2)
  /\ ((0 = 0) /\ ((List.length y.2 = List.length s.2) /\ ((0 = 0) /\ ((List.length y.3 = List.length s.3) /\ ((0 = 0) /\ ((List.length y.4 = List.length s.4) /\ ((Eq (α :=
  List Value) (gC enA g.1) (gC enA g.1)) /\ ((Plain (gC enA g.1)) /\ ((Eq (α := List Value) (bCells y.2) (bCells s.2)) /\ ((Plain (bCells y.2)) /\ ((Eq (α := List Value) (gC
  enH y.3) (gC enH s.3)) /\ ((Plain (gC enH y.3)) /\ ((Eq (α := List Value) (iCells IntKind.i64 y.4) (iCells IntKind.i64 s.4)) /\ ((Plain (iCells IntKind.i64 y.4)) /\
  True)))))))))))))))))) (∃ y : Sb, ((InvB g y) /\ ((g.2 = g.2) /\ ((0 = 0) /\ ((List.length y.2 = List.length s.2) /\ ((0 = 0) /\ ((List.length y.3 = List.length s.3) /\
  ((0 = 0) /\ ((List.length y.4 = List.length s.4) /\ ((Eq (α := List Value) (gC enA g.1) (gC enA g.1)) /\ ((Plain (gC enA g.1)) /\ ((Eq (α := List Value) (bCells y.2)
  (bCells s.2)) /\ ((Plain (bCells y.2)) /\ ((Eq (α := List Value) (gC enH y.3) (gC enH s.3)) /\ ((Plain (gC enH y.3)) /\ ((Eq (α := List Value) (iCells IntKind.i64 y.4)
  (iCells IntKind.i64 s.4)) /\ ((Plain (iCells IntKind.i64 y.4)) /\ True)))))))))))))))))) := by kernel_rfl
theorem D_round (g : Gd) (s : Nat) (Inv : Nat → Prop) (q : Nat → Nat) : mev EtB noM 60 7 (0 :: pB2) false (codeOf Try.prog 7 (0 :: pB2)) ⟨mkOv (slD g s), 141, []⟩ none ⟨mkR (rlD g), 5⟩ (roundK 1 5 141 Inv q (fun n => slD g n) (fun _ => rlD g) (wsD g) s) =
  (br (decide ((↑s : Int) < Int.ofNat (List.length g.4))) (br (decide ((0 : Int) <= (↑s : Int) /\ (↑s : Int) < (↑(List.length g.4) : Int))) ((Eq (α := Option Value) ((iCells
  IntKind.i64 g.4)[0 + Int.toNat (↑s : Int) * 1]?) (some (Value.int IntKind.i64 (cellI (iCells IntKind.i64 g.4) (0 + Int.toNat (↑s : Int) * 1))))) /\ (br (decide (cellI
  (iCells IntKind.i64 g.4) (0 + Int.toNat (↑s : Int) * 1) <= (↑g.5 : Int))) (∃ j : Nat, ((Inv j) /\ ((q j < q s) /\ ((0 = 0) /\ ((List.length g.2 = List.length g.2) /\ ((0 =
  0) /\ ((List.length g.3 = List.length g.3) /\ ((0 = 0) /\ ((List.length g.4 = List.length g.4) /\ ((0 = 0) /\ (((↑g.5 : Int) = (↑g.5 : Int)) /\ (((↑j : Int) = IntKind.wrap
  IntKind.i64 ((↑s : Int) + (1 : Int))) /\ ((Eq (α := List Value) (gC enA g.1) (gC enA g.1)) /\ ((Plain (gC enA g.1)) /\ ((Eq (α := List Value) (bCells g.2) (bCells g.2)) /\
  ((Plain (bCells g.2)) /\ ((Eq (α := List Value) (gC enH g.3) (gC enH g.3)) /\ ((Plain (gC enH g.3)) /\ ((Eq (α := List Value) (iCells IntKind.i64 g.4) (iCells IntKind.i64
  g.4)) /\ ((Plain (iCells IntKind.i64 g.4)) /\ (((16384 : Int) = (16384 : Int)) /\ ((ByteArray.mk #[] = ByteArray.mk #[]) /\ (((0 : Int) = (0 : Int)) /\ (((0 : Int) = (0 :
  Int)) /\ (((0 : Int) = (0 : Int)) /\ True))))))))))))))))))))))))) (∃ y : Nat, ((DoneD g y) /\ ((0 = 0) /\ ((List.length g.2 = List.length g.2) /\ ((0 = 0) /\
  ((List.length g.3 = List.length g.3) /\ ((0 = 0) /\ ((List.length g.4 = List.length g.4) /\ ((0 = 0) /\ (((↑g.5 : Int) = (↑g.5 : Int)) /\ (((↑y : Int) = (↑s : Int)) /\
  ((Eq (α := List Value) (gC enA g.1) (gC enA g.1)) /\ ((Plain (gC enA g.1)) /\ ((Eq (α := List Value) (bCells g.2) (bCells g.2)) /\ ((Plain (bCells g.2)) /\ ((Eq (α := List
  Value) (gC enH g.3) (gC enH g.3)) /\ ((Plain (gC enH g.3)) /\ ((Eq (α := List Value) (iCells IntKind.i64 g.4) (iCells IntKind.i64 g.4)) /\ ((Plain (iCells IntKind.i64
  g.4)) /\ (((16384 : Int) = (16384 : Int)) /\ ((ByteArray.mk #[] = ByteArray.mk #[]) /\ (((0 : Int) = (0 : Int)) /\ (((0 : Int) = (0 : Int)) /\ (((0 : Int) = (0 : Int)) /\
  True)))))))))))))))))))))))))) False) (∃ y : Nat, ((DoneD g y) /\ ((0 = 0) /\ ((List.length g.2 = List.length g.2) /\ ((0 = 0) /\ ((List.length g.3 = List.length g.3) /\
  ((0 = 0) /\ ((List.length g.4 = List.length g.4) /\ ((0 = 0) /\ (((↑g.5 : Int) = (↑g.5 : Int)) /\ (((↑y : Int) = (↑s : Int)) /\ ((Eq (α := List Value) (gC enA g.1) (gC enA
  g.1)) /\ ((Plain (gC enA g.1)) /\ ((Eq (α := List Value) (bCells g.2) (bCells g.2)) /\ ((Plain (bCells g.2)) /\ ((Eq (α := List Value) (gC enH g.3) (gC enH g.3)) /\
  ((Plain (gC enH g.3)) /\ ((Eq (α := List Value) (iCells IntKind.i64 g.4) (iCells IntKind.i64 g.4)) /\ ((Plain (iCells IntKind.i64 g.4)) /\ (((16384 : Int) = (16384 : Int))
  /\ ((ByteArray.mk #[] = ByteArray.mk #[]) /\ (((0 : Int) = (0 : Int)) /\ (((0 : Int) = (0 : Int)) /\ (((0 : Int) = (0 : Int)) /\ True))))))))))))))))))))))))) := by kernel_rfl
theorem B_vc (l : List Af) (c : Int) : mcall EtB mB 60 7 [slc4 0 l.length, .int .i64 c] ⟨mkR (nums 0 [gRo enA l]), 1⟩ (retIs 1 (.bool true) [gRo enA l]) =
  (∃ g : Gb, ((∀ (x : Af), x ∈ Gb.l g → AOk x) /\ ((0 = 0) /\ ((List.length g.1 = List.length l) /\ ((g.2 = c) /\ ((0 = 0) /\ ((0 = 0) /\ ((0 = 0) /\ (((0 : Int) = (0 :
  Int)) /\ ((Eq (α := List Value) (gC enA g.1) (gC enA l)) /\ ((Plain (gC enA g.1)) /\ ((Eq (α := List Value) ([]) ([])) /\ ((Eq (α := List Value) ([]) ([])) /\ ((Eq (α :=
  List Value) ([]) ([])) /\ (∀ (y : Sb), ((InvB g y) → ((((True /\ (True /\ (True /\ True))) /\ (True /\ (True /\ (I64 g.2 /\ ((-1000000000000 : Int) <= (0 : Int) /\
  (Int.ofNat (List.length y.2) <= (1000000000000 : Int) /\ (0 : Int) <= Int.ofNat (List.length y.2)))))))) /\ (∃ g2 : Gd, ((List.length g2.4 <= 20) /\ ((0 = 0) /\
  ((List.length g2.2 = List.length y.2) /\ ((0 = 0) /\ ((List.length g2.3 = List.length y.3) /\ ((0 = 0) /\ ((List.length g2.4 = List.length y.4) /\ ((0 = 0) /\ (((↑g2.5 :
  Int) = tk.inside g.2 (0 : Int) (Int.ofNat (List.length y.2))) /\ (((0 : Int) = (0 : Int)) /\ ((Eq (α := List Value) (gC enA g2.1) (gC enA g.1)) /\ ((Plain (gC enA g2.1))
  /\ ((Eq (α := List Value) (bCells g2.2) (bCells y.2)) /\ ((Plain (bCells g2.2)) /\ ((Eq (α := List Value) (gC enH g2.3) (gC enH y.3)) /\ ((Plain (gC enH g2.3)) /\ ((Eq (α
  := List Value) (iCells IntKind.i64 g2.4) (iCells IntKind.i64 y.4)) /\ ((Plain (iCells IntKind.i64 g2.4)) /\ (((16384 : Int) = (16384 : Int)) /\ ((ByteArray.mk #[] =
  ByteArray.mk #[]) /\ (((0 : Int) = (0 : Int)) /\ (((0 : Int) = (0 : Int)) /\ (((0 : Int) = (0 : Int)) /\ (∀ (y2 : Nat), ((DoneD g2 y2) → (br (decide ((↑y2 : Int) > (0 :
  Int))) (br (decide ((0 : Int) <= IntKind.wrap IntKind.i64 ((↑y2 : Int) - (1 : Int)) /\ IntKind.wrap IntKind.i64 ((↑y2 : Int) - (1 : Int)) < (↑(List.length g2.4) : Int)))
  ((Eq (α := Option Value) ((iCells IntKind.i64 g2.4)[0 + Int.toNat (IntKind.wrap IntKind.i64 ((↑y2 : Int) - (1 : Int))) * 1]?) (some (Value.int IntKind.i64 (cellI (iCells
  IntKind.i64 g2.4) (0 + Int.toNat (IntKind.wrap IntKind.i64 ((↑y2 : Int) - (1 : Int))) * 1))))) /\ (br (decide ((0 : Int) <= (↑0 : Int) /\ (0 : Int) <= (↑g2.5 : Int) /\
  (↑g2.5 : Int) <= (↑(List.length g2.2) : Int))) ((((True /\ ((0 + (Int.toNat (↑g2.5 : Int) - 0) * 1 <= List.length (bCells g2.2) /\ Plain (List.take ((Int.toNat (↑g2.5 :
  Int) - 0) * 1) (List.drop 0 (bCells g2.2)))) /\ True)) /\ (((True /\ (True /\ (True /\ (True /\ (True /\ (True /\ True)))))) /\ (True /\ True)) /\ ((Plain (bCells (zX
  (Row.mk [] false (Ob.cells true)) 0 (16384 : Int) (0 : Int) (Row.mk (List.take ((Int.toNat (↑g2.5 : Int) - 0) * 1) (List.drop 0 (bCells g2.2))) true (Ob.cells true)))) /\
  (Plain (gC enG (zL (Row.mk [] false (Ob.cells true)) 0 (16384 : Int) (0 : Int) (Row.mk (List.take ((Int.toNat (↑g2.5 : Int) - 0) * 1) (List.drop 0 (bCells g2.2))) true
  (Ob.cells true)))) /\ True)) /\ (ByteArray.mk #[] = ByteArray.mk #[] /\ (IsB (Row.mk (List.take ((Int.toNat (↑g2.5 : Int) - 0) * 1) (List.drop 0 (bCells g2.2))) true
  (Ob.cells true)) (Int.toNat (↑g2.5 : Int) - 0) /\ Int.toNat (↑g2.5 : Int) - 0 <= 16777216)))))) /\ (br (decide ((0 : Int) <= (↑0 : Int) /\ (0 : Int) <= (↑y2 : Int) /\ (↑y2
  : Int) <= (↑(List.length g2.3) : Int))) (((((0 + zM (Row.mk [] false (Ob.cells true)) 0 (16384 : Int) (0 : Int) (Row.mk (List.take ((Int.toNat (↑g2.5 : Int) - 0) * 1)
  (List.drop 0 (bCells g2.2))) true (Ob.cells true)) * 4 <= List.length (gC enG (zL (Row.mk [] false (Ob.cells true)) 0 (16384 : Int) (0 : Int) (Row.mk (List.take
  ((Int.toNat (↑g2.5 : Int) - 0) * 1) (List.drop 0 (bCells g2.2))) true (Ob.cells true)))) /\ Plain (List.take (zM (Row.mk [] false (Ob.cells true)) 0 (16384 : Int) (0 :
  Int) (Row.mk (List.take ((Int.toNat (↑g2.5 : Int) - 0) * 1) (List.drop 0 (bCells g2.2))) true (Ob.cells true)) * 4) (List.drop 0 (gC enG (zL (Row.mk [] false (Ob.cells
  true)) 0 (16384 : Int) (0 : Int) (Row.mk (List.take ((Int.toNat (↑g2.5 : Int) - 0) * 1) (List.drop 0 (bCells g2.2))) true (Ob.cells true))))))) /\ ((0 + (Int.toNat (↑y2 :
  Int) - 0) * 4 <= List.length (gC enH g2.3) /\ Plain (List.take ((Int.toNat (↑y2 : Int) - 0) * 4) (List.drop 0 (gC enH g2.3)))) /\ True)) /\ ((True /\ (True /\ True)) /\
  (True /\ (IsF (Row.mk (List.take (zM (Row.mk [] false (Ob.cells true)) 0 (16384 : Int) (0 : Int) (Row.mk (List.take ((Int.toNat (↑g2.5 : Int) - 0) * 1) (List.drop 0
  (bCells g2.2))) true (Ob.cells true)) * 4) (List.drop 0 (gC enG (zL (Row.mk [] false (Ob.cells true)) 0 (16384 : Int) (0 : Int) (Row.mk (List.take ((Int.toNat (↑g2.5 :
  Int) - 0) * 1) (List.drop 0 (bCells g2.2))) true (Ob.cells true)))))) true (Ob.cells true)) (zM (Row.mk [] false (Ob.cells true)) 0 (16384 : Int) (0 : Int) (Row.mk
  (List.take ((Int.toNat (↑g2.5 : Int) - 0) * 1) (List.drop 0 (bCells g2.2))) true (Ob.cells true))) /\ (IsF (Row.mk (List.take ((Int.toNat (↑y2 : Int) - 0) * 4) (List.drop
  0 (gC enH g2.3))) true (Ob.cells true)) (Int.toNat (↑y2 : Int) - 0) /\ zM (Row.mk [] false (Ob.cells true)) 0 (16384 : Int) (0 : Int) (Row.mk (List.take ((Int.toNat (↑g2.5
  : Int) - 0) * 1) (List.drop 0 (bCells g2.2))) true (Ob.cells true)) <= 9223372036854775807)))))) /\ (br (!zF (Row.mk (List.take (zM (Row.mk [] false (Ob.cells true)) 0
  (16384 : Int) (0 : Int) (Row.mk (List.take ((Int.toNat (↑g2.5 : Int) - 0) * 1) (List.drop 0 (bCells g2.2))) true (Ob.cells true)) * 4) (List.drop 0 (gC enG (zL (Row.mk []
  false (Ob.cells true)) 0 (16384 : Int) (0 : Int) (Row.mk (List.take ((Int.toNat (↑g2.5 : Int) - 0) * 1) (List.drop 0 (bCells g2.2))) true (Ob.cells true)))))) true
  (Ob.cells true)) (Row.mk (List.take ((Int.toNat (↑y2 : Int) - 0) * 4) (List.drop 0 (gC enH g2.3))) true (Ob.cells true))) ((true = false) /\ ((Eq (α := List Value) (gC enA
  l) (gC enA g2.1)) /\ ((Plain (gC enA l)) /\ True))) (br (!(zB (Row.mk [] false (Ob.cells true)) 0 (16384 : Int) (0 : Int) (Row.mk (List.take ((Int.toNat (↑g2.5 : Int) - 0)
  * 1) (List.drop 0 (bCells g2.2))) true (Ob.cells true)) == (0 : Int) && (zC (Row.mk [] false (Ob.cells true)) 0 (16384 : Int) (0 : Int) (Row.mk (List.take ((Int.toNat
  (↑g2.5 : Int) - 0) * 1) (List.drop 0 (bCells g2.2))) true (Ob.cells true)) == (0 : Int) && true))) ((true = false) /\ ((Eq (α := List Value) (gC enA l) (gC enA g2.1)) /\
  ((Plain (gC enA l)) /\ True))) (br (Int.ofNat (zN (Row.mk [] false (Ob.cells true)) 0 (16384 : Int) (0 : Int) (Row.mk (List.take ((Int.toNat (↑g2.5 : Int) - 0) * 1)
  (List.drop 0 (bCells g2.2))) true (Ob.cells true))) != IntKind.wrap IntKind.i64 ((↑g2.5 : Int) - cellI (iCells IntKind.i64 g2.4) (0 + Int.toNat (IntKind.wrap IntKind.i64
  ((↑y2 : Int) - (1 : Int))) * 1))) ((true = false) /\ ((Eq (α := List Value) (gC enA l) (gC enA g2.1)) /\ ((Plain (gC enA l)) /\ True))) (br (decide ((0 : Int) <= (↑g2.5 :
  Int) /\ (↑g2.5 : Int) <= (↑(List.length g2.2) : Int) /\ (↑(List.length g2.2) : Int) <= (↑(List.length g2.2) : Int))) ((((True /\ ((0 + Int.toNat (↑g2.5 : Int) * 1 +
  (Int.toNat (↑(List.length g2.2) : Int) - Int.toNat (↑g2.5 : Int)) * 1 <= List.length (bCells g2.2) /\ Plain (List.take ((Int.toNat (↑(List.length g2.2) : Int) - Int.toNat
  (↑g2.5 : Int)) * 1) (List.drop (0 + Int.toNat (↑g2.5 : Int) * 1) (bCells g2.2)))) /\ True)) /\ (((True /\ (True /\ (True /\ (True /\ (True /\ (True /\ True)))))) /\ (True
  /\ (Plain (bCells (zX (Row.mk [] false (Ob.cells true)) 0 (16384 : Int) (0 : Int) (Row.mk (List.take ((Int.toNat (↑g2.5 : Int) - 0) * 1) (List.drop 0 (bCells g2.2))) true
  (Ob.cells true)))) /\ True))) /\ ((Plain (bCells (zX (Row.mk (bCells (zX (Row.mk [] false (Ob.cells true)) 0 (16384 : Int) (0 : Int) (Row.mk (List.take ((Int.toNat (↑g2.5
  : Int) - 0) * 1) (List.drop 0 (bCells g2.2))) true (Ob.cells true)))) false (Ob.cells true)) (0 + zK (Row.mk [] false (Ob.cells true)) 0 (16384 : Int) (0 : Int) (Row.mk
  (List.take ((Int.toNat (↑g2.5 : Int) - 0) * 1) (List.drop 0 (bCells g2.2))) true (Ob.cells true))) (16384 : Int) (zB (Row.mk [] false (Ob.cells true)) 0 (16384 : Int) (0 :
  Int) (Row.mk (List.take ((Int.toNat (↑g2.5 : Int) - 0) * 1) (List.drop 0 (bCells g2.2))) true (Ob.cells true))) (Row.mk (List.take ((Int.toNat (↑(List.length g2.2) : Int)
  - Int.toNat (↑g2.5 : Int)) * 1) (List.drop (0 + Int.toNat (↑g2.5 : Int) * 1) (bCells g2.2))) true (Ob.cells true)))) /\ (Plain (gC enG (zL (Row.mk (bCells (zX (Row.mk []
  false (Ob.cells true)) 0 (16384 : Int) (0 : Int) (Row.mk (List.take ((Int.toNat (↑g2.5 : Int) - 0) * 1) (List.drop 0 (bCells g2.2))) true (Ob.cells true)))) false
  (Ob.cells true)) (0 + zK (Row.mk [] false (Ob.cells true)) 0 (16384 : Int) (0 : Int) (Row.mk (List.take ((Int.toNat (↑g2.5 : Int) - 0) * 1) (List.drop 0 (bCells g2.2)))
  true (Ob.cells true))) (16384 : Int) (zB (Row.mk [] false (Ob.cells true)) 0 (16384 : Int) (0 : Int) (Row.mk (List.take ((Int.toNat (↑g2.5 : Int) - 0) * 1) (List.drop 0
  (bCells g2.2))) true (Ob.cells true))) (Row.mk (List.take ((Int.toNat (↑(List.length g2.2) : Int) - Int.toNat (↑g2.5 : Int)) * 1) (List.drop (0 + Int.toNat (↑g2.5 : Int) *
  1) (bCells g2.2))) true (Ob.cells true)))) /\ True)) /\ (ByteArray.mk #[] = ByteArray.mk #[] /\ IsR (Row.mk (bCells (zX (Row.mk [] false (Ob.cells true)) 0 (16384 : Int)
  (0 : Int) (Row.mk (List.take ((Int.toNat (↑g2.5 : Int) - 0) * 1) (List.drop 0 (bCells g2.2))) true (Ob.cells true)))) false (Ob.cells true)) (0 + zK (Row.mk [] false
  (Ob.cells true)) 0 (16384 : Int) (0 : Int) (Row.mk (List.take ((Int.toNat (↑g2.5 : Int) - 0) * 1) (List.drop 0 (bCells g2.2))) true (Ob.cells true))) (zN (Row.mk [] false
  (Ob.cells true)) 0 (16384 : Int) (0 : Int) (Row.mk (List.take ((Int.toNat (↑g2.5 : Int) - 0) * 1) (List.drop 0 (bCells g2.2))) true (Ob.cells true))) (zB (Row.mk [] false
  (Ob.cells true)) 0 (16384 : Int) (0 : Int) (Row.mk (List.take ((Int.toNat (↑g2.5 : Int) - 0) * 1) (List.drop 0 (bCells g2.2))) true (Ob.cells true))) (zC (Row.mk [] false
  (Ob.cells true)) 0 (16384 : Int) (0 : Int) (Row.mk (List.take ((Int.toNat (↑g2.5 : Int) - 0) * 1) (List.drop 0 (bCells g2.2))) true (Ob.cells true))) (Row.mk (List.take
  ((Int.toNat (↑(List.length g2.2) : Int) - Int.toNat (↑g2.5 : Int)) * 1) (List.drop (0 + Int.toNat (↑g2.5 : Int) * 1) (bCells g2.2))) true (Ob.cells true)) (Int.toNat
  (↑(List.length g2.2) : Int) - Int.toNat (↑g2.5 : Int))))))) /\ (br (decide ((0 : Int) <= (↑y2 : Int) /\ (↑y2 : Int) <= (↑(List.length g2.3) : Int) /\ (↑(List.length g2.3)
  : Int) <= (↑(List.length g2.3) : Int))) (((((0 + zM (Row.mk (bCells (zX (Row.mk [] false (Ob.cells true)) 0 (16384 : Int) (0 : Int) (Row.mk (List.take ((Int.toNat (↑g2.5 :
  Int) - 0) * 1) (List.drop 0 (bCells g2.2))) true (Ob.cells true)))) false (Ob.cells true)) (0 + zK (Row.mk [] false (Ob.cells true)) 0 (16384 : Int) (0 : Int) (Row.mk
  (List.take ((Int.toNat (↑g2.5 : Int) - 0) * 1) (List.drop 0 (bCells g2.2))) true (Ob.cells true))) (16384 : Int) (zB (Row.mk [] false (Ob.cells true)) 0 (16384 : Int) (0 :
  Int) (Row.mk (List.take ((Int.toNat (↑g2.5 : Int) - 0) * 1) (List.drop 0 (bCells g2.2))) true (Ob.cells true))) (Row.mk (List.take ((Int.toNat (↑(List.length g2.2) : Int)
  - Int.toNat (↑g2.5 : Int)) * 1) (List.drop (0 + Int.toNat (↑g2.5 : Int) * 1) (bCells g2.2))) true (Ob.cells true)) * 4 <= List.length (gC enG (zL (Row.mk (bCells (zX
  (Row.mk [] false (Ob.cells true)) 0 (16384 : Int) (0 : Int) (Row.mk (List.take ((Int.toNat (↑g2.5 : Int) - 0) * 1) (List.drop 0 (bCells g2.2))) true (Ob.cells true))))
  false (Ob.cells true)) (0 + zK (Row.mk [] false (Ob.cells true)) 0 (16384 : Int) (0 : Int) (Row.mk (List.take ((Int.toNat (↑g2.5 : Int) - 0) * 1) (List.drop 0 (bCells
  g2.2))) true (Ob.cells true))) (16384 : Int) (zB (Row.mk [] false (Ob.cells true)) 0 (16384 : Int) (0 : Int) (Row.mk (List.take ((Int.toNat (↑g2.5 : Int) - 0) * 1)
  (List.drop 0 (bCells g2.2))) true (Ob.cells true))) (Row.mk (List.take ((Int.toNat (↑(List.length g2.2) : Int) - Int.toNat (↑g2.5 : Int)) * 1) (List.drop (0 + Int.toNat
  (↑g2.5 : Int) * 1) (bCells g2.2))) true (Ob.cells true)))) /\ Plain (List.take (zM (Row.mk (bCells (zX (Row.mk [] false (Ob.cells true)) 0 (16384 : Int) (0 : Int) (Row.mk
  (List.take ((Int.toNat (↑g2.5 : Int) - 0) * 1) (List.drop 0 (bCells g2.2))) true (Ob.cells true)))) false (Ob.cells true)) (0 + zK (Row.mk [] false (Ob.cells true)) 0
  (16384 : Int) (0 : Int) (Row.mk (List.take ((Int.toNat (↑g2.5 : Int) - 0) * 1) (List.drop 0 (bCells g2.2))) true (Ob.cells true))) (16384 : Int) (zB (Row.mk [] false
  (Ob.cells true)) 0 (16384 : Int) (0 : Int) (Row.mk (List.take ((Int.toNat (↑g2.5 : Int) - 0) * 1) (List.drop 0 (bCells g2.2))) true (Ob.cells true))) (Row.mk (List.take
  ((Int.toNat (↑(List.length g2.2) : Int) - Int.toNat (↑g2.5 : Int)) * 1) (List.drop (0 + Int.toNat (↑g2.5 : Int) * 1) (bCells g2.2))) true (Ob.cells true)) * 4) (List.drop
  0 (gC enG (zL (Row.mk (bCells (zX (Row.mk [] false (Ob.cells true)) 0 (16384 : Int) (0 : Int) (Row.mk (List.take ((Int.toNat (↑g2.5 : Int) - 0) * 1) (List.drop 0 (bCells
  g2.2))) true (Ob.cells true)))) false (Ob.cells true)) (0 + zK (Row.mk [] false (Ob.cells true)) 0 (16384 : Int) (0 : Int) (Row.mk (List.take ((Int.toNat (↑g2.5 : Int) -
  0) * 1) (List.drop 0 (bCells g2.2))) true (Ob.cells true))) (16384 : Int) (zB (Row.mk [] false (Ob.cells true)) 0 (16384 : Int) (0 : Int) (Row.mk (List.take ((Int.toNat
  (↑g2.5 : Int) - 0) * 1) (List.drop 0 (bCells g2.2))) true (Ob.cells true))) (Row.mk (List.take ((Int.toNat (↑(List.length g2.2) : Int) - Int.toNat (↑g2.5 : Int)) * 1)
  (List.drop (0 + Int.toNat (↑g2.5 : Int) * 1) (bCells g2.2))) true (Ob.cells true))))))) /\ ((0 + Int.toNat (↑y2 : Int) * 4 + (Int.toNat (↑(List.length g2.3) : Int) -
  Int.toNat (↑y2 : Int)) * 4 <= List.length (gC enH g2.3) /\ Plain (List.take ((Int.toNat (↑(List.length g2.3) : Int) - Int.toNat (↑y2 : Int)) * 4) (List.drop (0 + Int.toNat
  (↑y2 : Int) * 4) (gC enH g2.3)))) /\ True)) /\ ((True /\ (True /\ True)) /\ (True /\ (IsF (Row.mk (List.take (zM (Row.mk (bCells (zX (Row.mk [] false (Ob.cells true)) 0
  (16384 : Int) (0 : Int) (Row.mk (List.take ((Int.toNat (↑g2.5 : Int) - 0) * 1) (List.drop 0 (bCells g2.2))) true (Ob.cells true)))) false (Ob.cells true)) (0 + zK (Row.mk
  [] false (Ob.cells true)) 0 (16384 : Int) (0 : Int) (Row.mk (List.take ((Int.toNat (↑g2.5 : Int) - 0) * 1) (List.drop 0 (bCells g2.2))) true (Ob.cells true))) (16384 :
  Int) (zB (Row.mk [] false (Ob.cells true)) 0 (16384 : Int) (0 : Int) (Row.mk (List.take ((Int.toNat (↑g2.5 : Int) - 0) * 1) (List.drop 0 (bCells g2.2))) true (Ob.cells
  true))) (Row.mk (List.take ((Int.toNat (↑(List.length g2.2) : Int) - Int.toNat (↑g2.5 : Int)) * 1) (List.drop (0 + Int.toNat (↑g2.5 : Int) * 1) (bCells g2.2))) true
  (Ob.cells true)) * 4) (List.drop 0 (gC enG (zL (Row.mk (bCells (zX (Row.mk [] false (Ob.cells true)) 0 (16384 : Int) (0 : Int) (Row.mk (List.take ((Int.toNat (↑g2.5 : Int)
  - 0) * 1) (List.drop 0 (bCells g2.2))) true (Ob.cells true)))) false (Ob.cells true)) (0 + zK (Row.mk [] false (Ob.cells true)) 0 (16384 : Int) (0 : Int) (Row.mk
  (List.take ((Int.toNat (↑g2.5 : Int) - 0) * 1) (List.drop 0 (bCells g2.2))) true (Ob.cells true))) (16384 : Int) (zB (Row.mk [] false (Ob.cells true)) 0 (16384 : Int) (0 :
  Int) (Row.mk (List.take ((Int.toNat (↑g2.5 : Int) - 0) * 1) (List.drop 0 (bCells g2.2))) true (Ob.cells true))) (Row.mk (List.take ((Int.toNat (↑(List.length g2.2) : Int)
  - Int.toNat (↑g2.5 : Int)) * 1) (List.drop (0 + Int.toNat (↑g2.5 : Int) * 1) (bCells g2.2))) true (Ob.cells true)))))) true (Ob.cells true)) (zM (Row.mk (bCells (zX
  (Row.mk [] false (Ob.cells true)) 0 (16384 : Int) (0 : Int) (Row.mk (List.take ((Int.toNat (↑g2.5 : Int) - 0) * 1) (List.drop 0 (bCells g2.2))) true (Ob.cells true))))
  false (Ob.cells true)) (0 + zK (Row.mk [] false (Ob.cells true)) 0 (16384 : Int) (0 : Int) (Row.mk (List.take ((Int.toNat (↑g2.5 : Int) - 0) * 1) (List.drop 0 (bCells
  g2.2))) true (Ob.cells true))) (16384 : Int) (zB (Row.mk [] false (Ob.cells true)) 0 (16384 : Int) (0 : Int) (Row.mk (List.take ((Int.toNat (↑g2.5 : Int) - 0) * 1)
  (List.drop 0 (bCells g2.2))) true (Ob.cells true))) (Row.mk (List.take ((Int.toNat (↑(List.length g2.2) : Int) - Int.toNat (↑g2.5 : Int)) * 1) (List.drop (0 + Int.toNat
  (↑g2.5 : Int) * 1) (bCells g2.2))) true (Ob.cells true))) /\ (IsF (Row.mk (List.take ((Int.toNat (↑(List.length g2.3) : Int) - Int.toNat (↑y2 : Int)) * 4) (List.drop (0 +
  Int.toNat (↑y2 : Int) * 4) (gC enH g2.3))) true (Ob.cells true)) (Int.toNat (↑(List.length g2.3) : Int) - Int.toNat (↑y2 : Int)) /\ zM (Row.mk (bCells (zX (Row.mk [] false
  (Ob.cells true)) 0 (16384 : Int) (0 : Int) (Row.mk (List.take ((Int.toNat (↑g2.5 : Int) - 0) * 1) (List.drop 0 (bCells g2.2))) true (Ob.cells true)))) false (Ob.cells
  true)) (0 + zK (Row.mk [] false (Ob.cells true)) 0 (16384 : Int) (0 : Int) (Row.mk (List.take ((Int.toNat (↑g2.5 : Int) - 0) * 1) (List.drop 0 (bCells g2.2))) true
  (Ob.cells true))) (16384 : Int) (zB (Row.mk [] false (Ob.cells true)) 0 (16384 : Int) (0 : Int) (Row.mk (List.take ((Int.toNat (↑g2.5 : Int) - 0) * 1) (List.drop 0 (bCells
  g2.2))) true (Ob.cells true))) (Row.mk (List.take ((Int.toNat (↑(List.length g2.2) : Int) - Int.toNat (↑g2.5 : Int)) * 1) (List.drop (0 + Int.toNat (↑g2.5 : Int) * 1)
  (bCells g2.2))) true (Ob.cells true)) <= 9223372036854775807)))))) /\ (br (zF (Row.mk (List.take (zM (Row.mk (bCells (zX (Row.mk [] false (Ob.cells true)) 0 (16384 : Int)
  (0 : Int) (Row.mk (List.take ((Int.toNat (↑g2.5 : Int) - 0) * 1) (List.drop 0 (bCells g2.2))) true (Ob.cells true)))) false (Ob.cells true)) (0 + zK (Row.mk [] false
  (Ob.cells true)) 0 (16384 : Int) (0 : Int) (Row.mk (List.take ((Int.toNat (↑g2.5 : Int) - 0) * 1) (List.drop 0 (bCells g2.2))) true (Ob.cells true))) (16384 : Int) (zB
  (Row.mk [] false (Ob.cells true)) 0 (16384 : Int) (0 : Int) (Row.mk (List.take ((Int.toNat (↑g2.5 : Int) - 0) * 1) (List.drop 0 (bCells g2.2))) true (Ob.cells true)))
  (Row.mk (List.take ((Int.toNat (↑(List.length g2.2) : Int) - Int.toNat (↑g2.5 : Int)) * 1) (List.drop (0 + Int.toNat (↑g2.5 : Int) * 1) (bCells g2.2))) true (Ob.cells
  true)) * 4) (List.drop 0 (gC enG (zL (Row.mk (bCells (zX (Row.mk [] false (Ob.cells true)) 0 (16384 : Int) (0 : Int) (Row.mk (List.take ((Int.toNat (↑g2.5 : Int) - 0) * 1)
  (List.drop 0 (bCells g2.2))) true (Ob.cells true)))) false (Ob.cells true)) (0 + zK (Row.mk [] false (Ob.cells true)) 0 (16384 : Int) (0 : Int) (Row.mk (List.take
  ((Int.toNat (↑g2.5 : Int) - 0) * 1) (List.drop 0 (bCells g2.2))) true (Ob.cells true))) (16384 : Int) (zB (Row.mk [] false (Ob.cells true)) 0 (16384 : Int) (0 : Int)
  (Row.mk (List.take ((Int.toNat (↑g2.5 : Int) - 0) * 1) (List.drop 0 (bCells g2.2))) true (Ob.cells true))) (Row.mk (List.take ((Int.toNat (↑(List.length g2.2) : Int) -
  Int.toNat (↑g2.5 : Int)) * 1) (List.drop (0 + Int.toNat (↑g2.5 : Int) * 1) (bCells g2.2))) true (Ob.cells true)))))) true (Ob.cells true)) (Row.mk (List.take ((Int.toNat
  (↑(List.length g2.3) : Int) - Int.toNat (↑y2 : Int)) * 4) (List.drop (0 + Int.toNat (↑y2 : Int) * 4) (gC enH g2.3))) true (Ob.cells true))) (br (zB (Row.mk (bCells (zX
  (Row.mk [] false (Ob.cells true)) 0 (16384 : Int) (0 : Int) (Row.mk (List.take ((Int.toNat (↑g2.5 : Int) - 0) * 1) (List.drop 0 (bCells g2.2))) true (Ob.cells true))))
  false (Ob.cells true)) (0 + zK (Row.mk [] false (Ob.cells true)) 0 (16384 : Int) (0 : Int) (Row.mk (List.take ((Int.toNat (↑g2.5 : Int) - 0) * 1) (List.drop 0 (bCells
  g2.2))) true (Ob.cells true))) (16384 : Int) (zB (Row.mk [] false (Ob.cells true)) 0 (16384 : Int) (0 : Int) (Row.mk (List.take ((Int.toNat (↑g2.5 : Int) - 0) * 1)
  (List.drop 0 (bCells g2.2))) true (Ob.cells true))) (Row.mk (List.take ((Int.toNat (↑(List.length g2.2) : Int) - Int.toNat (↑g2.5 : Int)) * 1) (List.drop (0 + Int.toNat
  (↑g2.5 : Int) * 1) (bCells g2.2))) true (Ob.cells true)) == (0 : Int) && (zC (Row.mk (bCells (zX (Row.mk [] false (Ob.cells true)) 0 (16384 : Int) (0 : Int) (Row.mk
  (List.take ((Int.toNat (↑g2.5 : Int) - 0) * 1) (List.drop 0 (bCells g2.2))) true (Ob.cells true)))) false (Ob.cells true)) (0 + zK (Row.mk [] false (Ob.cells true)) 0
  (16384 : Int) (0 : Int) (Row.mk (List.take ((Int.toNat (↑g2.5 : Int) - 0) * 1) (List.drop 0 (bCells g2.2))) true (Ob.cells true))) (16384 : Int) (zB (Row.mk [] false
  (Ob.cells true)) 0 (16384 : Int) (0 : Int) (Row.mk (List.take ((Int.toNat (↑g2.5 : Int) - 0) * 1) (List.drop 0 (bCells g2.2))) true (Ob.cells true))) (Row.mk (List.take
  ((Int.toNat (↑(List.length g2.2) : Int) - Int.toNat (↑g2.5 : Int)) * 1) (List.drop (0 + Int.toNat (↑g2.5 : Int) * 1) (bCells g2.2))) true (Ob.cells true)) == (0 : Int) &&
  true)) (br (Int.ofNat (zN (Row.mk (bCells (zX (Row.mk [] false (Ob.cells true)) 0 (16384 : Int) (0 : Int) (Row.mk (List.take ((Int.toNat (↑g2.5 : Int) - 0) * 1) (List.drop
  0 (bCells g2.2))) true (Ob.cells true)))) false (Ob.cells true)) (0 + zK (Row.mk [] false (Ob.cells true)) 0 (16384 : Int) (0 : Int) (Row.mk (List.take ((Int.toNat (↑g2.5
  : Int) - 0) * 1) (List.drop 0 (bCells g2.2))) true (Ob.cells true))) (16384 : Int) (zB (Row.mk [] false (Ob.cells true)) 0 (16384 : Int) (0 : Int) (Row.mk (List.take
  ((Int.toNat (↑g2.5 : Int) - 0) * 1) (List.drop 0 (bCells g2.2))) true (Ob.cells true))) (Row.mk (List.take ((Int.toNat (↑(List.length g2.2) : Int) - Int.toNat (↑g2.5 :
  Int)) * 1) (List.drop (0 + Int.toNat (↑g2.5 : Int) * 1) (bCells g2.2))) true (Ob.cells true))) == (0 : Int)) (((True /\ (True /\ (True /\ True)))) /\ ((true = true) /\
  ((Eq (α := List Value) (gC enA l) (gC enA g2.1)) /\ ((Plain (gC enA l)) /\ True)))) ((true = false) /\ ((Eq (α := List Value) (gC enA l) (gC enA g2.1)) /\ ((Plain (gC enA
  l)) /\ True)))) ((true = false) /\ ((Eq (α := List Value) (gC enA l) (gC enA g2.1)) /\ ((Plain (gC enA l)) /\ True)))) ((true = false) /\ ((Eq (α := List Value) (gC enA l)
  (gC enA g2.1)) /\ ((Plain (gC enA l)) /\ True))))) False)) False))))) False)) False)) False) (br (decide ((0 : Int) <= (↑0 : Int) /\ (0 : Int) <= (↑g2.5 : Int) /\ (↑g2.5 :
  Int) <= (↑(List.length g2.2) : Int))) ((((True /\ ((0 + (Int.toNat (↑g2.5 : Int) - 0) * 1 <= List.length (bCells g2.2) /\ Plain (List.take ((Int.toNat (↑g2.5 : Int) - 0) *
  1) (List.drop 0 (bCells g2.2)))) /\ True)) /\ (((True /\ (True /\ (True /\ (True /\ (True /\ (True /\ True)))))) /\ (True /\ True)) /\ ((Plain (bCells (zX (Row.mk [] false
  (Ob.cells true)) 0 (16384 : Int) (0 : Int) (Row.mk (List.take ((Int.toNat (↑g2.5 : Int) - 0) * 1) (List.drop 0 (bCells g2.2))) true (Ob.cells true)))) /\ (Plain (gC enG
  (zL (Row.mk [] false (Ob.cells true)) 0 (16384 : Int) (0 : Int) (Row.mk (List.take ((Int.toNat (↑g2.5 : Int) - 0) * 1) (List.drop 0 (bCells g2.2))) true (Ob.cells true))))
  /\ True)) /\ (ByteArray.mk #[] = ByteArray.mk #[] /\ (IsB (Row.mk (List.take ((Int.toNat (↑g2.5 : Int) - 0) * 1) (List.drop 0 (bCells g2.2))) true (Ob.cells true))
  (Int.toNat (↑g2.5 : Int) - 0) /\ Int.toNat (↑g2.5 : Int) - 0 <= 16777216)))))) /\ (br (decide ((0 : Int) <= (↑0 : Int) /\ (0 : Int) <= (↑y2 : Int) /\ (↑y2 : Int) <=
  (↑(List.length g2.3) : Int))) (((((0 + zM (Row.mk [] false (Ob.cells true)) 0 (16384 : Int) (0 : Int) (Row.mk (List.take ((Int.toNat (↑g2.5 : Int) - 0) * 1) (List.drop 0
  (bCells g2.2))) true (Ob.cells true)) * 4 <= List.length (gC enG (zL (Row.mk [] false (Ob.cells true)) 0 (16384 : Int) (0 : Int) (Row.mk (List.take ((Int.toNat (↑g2.5 :
  Int) - 0) * 1) (List.drop 0 (bCells g2.2))) true (Ob.cells true)))) /\ Plain (List.take (zM (Row.mk [] false (Ob.cells true)) 0 (16384 : Int) (0 : Int) (Row.mk (List.take
  ((Int.toNat (↑g2.5 : Int) - 0) * 1) (List.drop 0 (bCells g2.2))) true (Ob.cells true)) * 4) (List.drop 0 (gC enG (zL (Row.mk [] false (Ob.cells true)) 0 (16384 : Int) (0 :
  Int) (Row.mk (List.take ((Int.toNat (↑g2.5 : Int) - 0) * 1) (List.drop 0 (bCells g2.2))) true (Ob.cells true))))))) /\ ((0 + (Int.toNat (↑y2 : Int) - 0) * 4 <= List.length
  (gC enH g2.3) /\ Plain (List.take ((Int.toNat (↑y2 : Int) - 0) * 4) (List.drop 0 (gC enH g2.3)))) /\ True)) /\ ((True /\ (True /\ True)) /\ (True /\ (IsF (Row.mk
  (List.take (zM (Row.mk [] false (Ob.cells true)) 0 (16384 : Int) (0 : Int) (Row.mk (List.take ((Int.toNat (↑g2.5 : Int) - 0) * 1) (List.drop 0 (bCells g2.2))) true
  (Ob.cells true)) * 4) (List.drop 0 (gC enG (zL (Row.mk [] false (Ob.cells true)) 0 (16384 : Int) (0 : Int) (Row.mk (List.take ((Int.toNat (↑g2.5 : Int) - 0) * 1)
  (List.drop 0 (bCells g2.2))) true (Ob.cells true)))))) true (Ob.cells true)) (zM (Row.mk [] false (Ob.cells true)) 0 (16384 : Int) (0 : Int) (Row.mk (List.take ((Int.toNat
  (↑g2.5 : Int) - 0) * 1) (List.drop 0 (bCells g2.2))) true (Ob.cells true))) /\ (IsF (Row.mk (List.take ((Int.toNat (↑y2 : Int) - 0) * 4) (List.drop 0 (gC enH g2.3))) true
  (Ob.cells true)) (Int.toNat (↑y2 : Int) - 0) /\ zM (Row.mk [] false (Ob.cells true)) 0 (16384 : Int) (0 : Int) (Row.mk (List.take ((Int.toNat (↑g2.5 : Int) - 0) * 1)
  (List.drop 0 (bCells g2.2))) true (Ob.cells true)) <= 9223372036854775807)))))) /\ (br (!zF (Row.mk (List.take (zM (Row.mk [] false (Ob.cells true)) 0 (16384 : Int) (0 :
  Int) (Row.mk (List.take ((Int.toNat (↑g2.5 : Int) - 0) * 1) (List.drop 0 (bCells g2.2))) true (Ob.cells true)) * 4) (List.drop 0 (gC enG (zL (Row.mk [] false (Ob.cells
  true)) 0 (16384 : Int) (0 : Int) (Row.mk (List.take ((Int.toNat (↑g2.5 : Int) - 0) * 1) (List.drop 0 (bCells g2.2))) true (Ob.cells true)))))) true (Ob.cells true))
  (Row.mk (List.take ((Int.toNat (↑y2 : Int) - 0) * 4) (List.drop 0 (gC enH g2.3))) true (Ob.cells true))) ((true = false) /\ ((Eq (α := List Value) (gC enA l) (gC enA
  g2.1)) /\ ((Plain (gC enA l)) /\ True))) (br (!(zB (Row.mk [] false (Ob.cells true)) 0 (16384 : Int) (0 : Int) (Row.mk (List.take ((Int.toNat (↑g2.5 : Int) - 0) * 1)
  (List.drop 0 (bCells g2.2))) true (Ob.cells true)) == (0 : Int) && (zC (Row.mk [] false (Ob.cells true)) 0 (16384 : Int) (0 : Int) (Row.mk (List.take ((Int.toNat (↑g2.5 :
  Int) - 0) * 1) (List.drop 0 (bCells g2.2))) true (Ob.cells true)) == (0 : Int) && true))) ((true = false) /\ ((Eq (α := List Value) (gC enA l) (gC enA g2.1)) /\ ((Plain
  (gC enA l)) /\ True))) (br (Int.ofNat (zN (Row.mk [] false (Ob.cells true)) 0 (16384 : Int) (0 : Int) (Row.mk (List.take ((Int.toNat (↑g2.5 : Int) - 0) * 1) (List.drop 0
  (bCells g2.2))) true (Ob.cells true))) != IntKind.wrap IntKind.i64 ((↑g2.5 : Int) - (0 : Int))) ((true = false) /\ ((Eq (α := List Value) (gC enA l) (gC enA g2.1)) /\
  ((Plain (gC enA l)) /\ True))) (br (decide ((0 : Int) <= (↑g2.5 : Int) /\ (↑g2.5 : Int) <= (↑(List.length g2.2) : Int) /\ (↑(List.length g2.2) : Int) <= (↑(List.length
  g2.2) : Int))) ((((True /\ ((0 + Int.toNat (↑g2.5 : Int) * 1 + (Int.toNat (↑(List.length g2.2) : Int) - Int.toNat (↑g2.5 : Int)) * 1 <= List.length (bCells g2.2) /\ Plain
  (List.take ((Int.toNat (↑(List.length g2.2) : Int) - Int.toNat (↑g2.5 : Int)) * 1) (List.drop (0 + Int.toNat (↑g2.5 : Int) * 1) (bCells g2.2)))) /\ True)) /\ (((True /\
  (True /\ (True /\ (True /\ (True /\ (True /\ True)))))) /\ (True /\ (Plain (bCells (zX (Row.mk [] false (Ob.cells true)) 0 (16384 : Int) (0 : Int) (Row.mk (List.take
  ((Int.toNat (↑g2.5 : Int) - 0) * 1) (List.drop 0 (bCells g2.2))) true (Ob.cells true)))) /\ True))) /\ ((Plain (bCells (zX (Row.mk (bCells (zX (Row.mk [] false (Ob.cells
  true)) 0 (16384 : Int) (0 : Int) (Row.mk (List.take ((Int.toNat (↑g2.5 : Int) - 0) * 1) (List.drop 0 (bCells g2.2))) true (Ob.cells true)))) false (Ob.cells true)) (0 + zK
  (Row.mk [] false (Ob.cells true)) 0 (16384 : Int) (0 : Int) (Row.mk (List.take ((Int.toNat (↑g2.5 : Int) - 0) * 1) (List.drop 0 (bCells g2.2))) true (Ob.cells true)))
  (16384 : Int) (zB (Row.mk [] false (Ob.cells true)) 0 (16384 : Int) (0 : Int) (Row.mk (List.take ((Int.toNat (↑g2.5 : Int) - 0) * 1) (List.drop 0 (bCells g2.2))) true
  (Ob.cells true))) (Row.mk (List.take ((Int.toNat (↑(List.length g2.2) : Int) - Int.toNat (↑g2.5 : Int)) * 1) (List.drop (0 + Int.toNat (↑g2.5 : Int) * 1) (bCells g2.2)))
  true (Ob.cells true)))) /\ (Plain (gC enG (zL (Row.mk (bCells (zX (Row.mk [] false (Ob.cells true)) 0 (16384 : Int) (0 : Int) (Row.mk (List.take ((Int.toNat (↑g2.5 : Int)
  - 0) * 1) (List.drop 0 (bCells g2.2))) true (Ob.cells true)))) false (Ob.cells true)) (0 + zK (Row.mk [] false (Ob.cells true)) 0 (16384 : Int) (0 : Int) (Row.mk
  (List.take ((Int.toNat (↑g2.5 : Int) - 0) * 1) (List.drop 0 (bCells g2.2))) true (Ob.cells true))) (16384 : Int) (zB (Row.mk [] false (Ob.cells true)) 0 (16384 : Int) (0 :
  Int) (Row.mk (List.take ((Int.toNat (↑g2.5 : Int) - 0) * 1) (List.drop 0 (bCells g2.2))) true (Ob.cells true))) (Row.mk (List.take ((Int.toNat (↑(List.length g2.2) : Int)
  - Int.toNat (↑g2.5 : Int)) * 1) (List.drop (0 + Int.toNat (↑g2.5 : Int) * 1) (bCells g2.2))) true (Ob.cells true)))) /\ True)) /\ (ByteArray.mk #[] = ByteArray.mk #[] /\
  IsR (Row.mk (bCells (zX (Row.mk [] false (Ob.cells true)) 0 (16384 : Int) (0 : Int) (Row.mk (List.take ((Int.toNat (↑g2.5 : Int) - 0) * 1) (List.drop 0 (bCells g2.2)))
  true (Ob.cells true)))) false (Ob.cells true)) (0 + zK (Row.mk [] false (Ob.cells true)) 0 (16384 : Int) (0 : Int) (Row.mk (List.take ((Int.toNat (↑g2.5 : Int) - 0) * 1)
  (List.drop 0 (bCells g2.2))) true (Ob.cells true))) (zN (Row.mk [] false (Ob.cells true)) 0 (16384 : Int) (0 : Int) (Row.mk (List.take ((Int.toNat (↑g2.5 : Int) - 0) * 1)
  (List.drop 0 (bCells g2.2))) true (Ob.cells true))) (zB (Row.mk [] false (Ob.cells true)) 0 (16384 : Int) (0 : Int) (Row.mk (List.take ((Int.toNat (↑g2.5 : Int) - 0) * 1)
  (List.drop 0 (bCells g2.2))) true (Ob.cells true))) (zC (Row.mk [] false (Ob.cells true)) 0 (16384 : Int) (0 : Int) (Row.mk (List.take ((Int.toNat (↑g2.5 : Int) - 0) * 1)
  (List.drop 0 (bCells g2.2))) true (Ob.cells true))) (Row.mk (List.take ((Int.toNat (↑(List.length g2.2) : Int) - Int.toNat (↑g2.5 : Int)) * 1) (List.drop (0 + Int.toNat
  (↑g2.5 : Int) * 1) (bCells g2.2))) true (Ob.cells true)) (Int.toNat (↑(List.length g2.2) : Int) - Int.toNat (↑g2.5 : Int))))))) /\ (br (decide ((0 : Int) <= (↑y2 : Int) /\
  (↑y2 : Int) <= (↑(List.length g2.3) : Int) /\ (↑(List.length g2.3) : Int) <= (↑(List.length g2.3) : Int))) (((((0 + zM (Row.mk (bCells (zX (Row.mk [] false (Ob.cells
  true)) 0 (16384 : Int) (0 : Int) (Row.mk (List.take ((Int.toNat (↑g2.5 : Int) - 0) * 1) (List.drop 0 (bCells g2.2))) true (Ob.cells true)))) false (Ob.cells true)) (0 + zK
  (Row.mk [] false (Ob.cells true)) 0 (16384 : Int) (0 : Int) (Row.mk (List.take ((Int.toNat (↑g2.5 : Int) - 0) * 1) (List.drop 0 (bCells g2.2))) true (Ob.cells true)))
  (16384 : Int) (zB (Row.mk [] false (Ob.cells true)) 0 (16384 : Int) (0 : Int) (Row.mk (List.take ((Int.toNat (↑g2.5 : Int) - 0) * 1) (List.drop 0 (bCells g2.2))) true
  (Ob.cells true))) (Row.mk (List.take ((Int.toNat (↑(List.length g2.2) : Int) - Int.toNat (↑g2.5 : Int)) * 1) (List.drop (0 + Int.toNat (↑g2.5 : Int) * 1) (bCells g2.2)))
  true (Ob.cells true)) * 4 <= List.length (gC enG (zL (Row.mk (bCells (zX (Row.mk [] false (Ob.cells true)) 0 (16384 : Int) (0 : Int) (Row.mk (List.take ((Int.toNat (↑g2.5
  : Int) - 0) * 1) (List.drop 0 (bCells g2.2))) true (Ob.cells true)))) false (Ob.cells true)) (0 + zK (Row.mk [] false (Ob.cells true)) 0 (16384 : Int) (0 : Int) (Row.mk
  (List.take ((Int.toNat (↑g2.5 : Int) - 0) * 1) (List.drop 0 (bCells g2.2))) true (Ob.cells true))) (16384 : Int) (zB (Row.mk [] false (Ob.cells true)) 0 (16384 : Int) (0 :
  Int) (Row.mk (List.take ((Int.toNat (↑g2.5 : Int) - 0) * 1) (List.drop 0 (bCells g2.2))) true (Ob.cells true))) (Row.mk (List.take ((Int.toNat (↑(List.length g2.2) : Int)
  - Int.toNat (↑g2.5 : Int)) * 1) (List.drop (0 + Int.toNat (↑g2.5 : Int) * 1) (bCells g2.2))) true (Ob.cells true)))) /\ Plain (List.take (zM (Row.mk (bCells (zX (Row.mk []
  false (Ob.cells true)) 0 (16384 : Int) (0 : Int) (Row.mk (List.take ((Int.toNat (↑g2.5 : Int) - 0) * 1) (List.drop 0 (bCells g2.2))) true (Ob.cells true)))) false
  (Ob.cells true)) (0 + zK (Row.mk [] false (Ob.cells true)) 0 (16384 : Int) (0 : Int) (Row.mk (List.take ((Int.toNat (↑g2.5 : Int) - 0) * 1) (List.drop 0 (bCells g2.2)))
  true (Ob.cells true))) (16384 : Int) (zB (Row.mk [] false (Ob.cells true)) 0 (16384 : Int) (0 : Int) (Row.mk (List.take ((Int.toNat (↑g2.5 : Int) - 0) * 1) (List.drop 0
  (bCells g2.2))) true (Ob.cells true))) (Row.mk (List.take ((Int.toNat (↑(List.length g2.2) : Int) - Int.toNat (↑g2.5 : Int)) * 1) (List.drop (0 + Int.toNat (↑g2.5 : Int) *
  1) (bCells g2.2))) true (Ob.cells true)) * 4) (List.drop 0 (gC enG (zL (Row.mk (bCells (zX (Row.mk [] false (Ob.cells true)) 0 (16384 : Int) (0 : Int) (Row.mk (List.take
  ((Int.toNat (↑g2.5 : Int) - 0) * 1) (List.drop 0 (bCells g2.2))) true (Ob.cells true)))) false (Ob.cells true)) (0 + zK (Row.mk [] false (Ob.cells true)) 0 (16384 : Int)
  (0 : Int) (Row.mk (List.take ((Int.toNat (↑g2.5 : Int) - 0) * 1) (List.drop 0 (bCells g2.2))) true (Ob.cells true))) (16384 : Int) (zB (Row.mk [] false (Ob.cells true)) 0
  (16384 : Int) (0 : Int) (Row.mk (List.take ((Int.toNat (↑g2.5 : Int) - 0) * 1) (List.drop 0 (bCells g2.2))) true (Ob.cells true))) (Row.mk (List.take ((Int.toNat
  (↑(List.length g2.2) : Int) - Int.toNat (↑g2.5 : Int)) * 1) (List.drop (0 + Int.toNat (↑g2.5 : Int) * 1) (bCells g2.2))) true (Ob.cells true))))))) /\ ((0 + Int.toNat (↑y2
  : Int) * 4 + (Int.toNat (↑(List.length g2.3) : Int) - Int.toNat (↑y2 : Int)) * 4 <= List.length (gC enH g2.3) /\ Plain (List.take ((Int.toNat (↑(List.length g2.3) : Int) -
  Int.toNat (↑y2 : Int)) * 4) (List.drop (0 + Int.toNat (↑y2 : Int) * 4) (gC enH g2.3)))) /\ True)) /\ ((True /\ (True /\ True)) /\ (True /\ (IsF (Row.mk (List.take (zM
  (Row.mk (bCells (zX (Row.mk [] false (Ob.cells true)) 0 (16384 : Int) (0 : Int) (Row.mk (List.take ((Int.toNat (↑g2.5 : Int) - 0) * 1) (List.drop 0 (bCells g2.2))) true
  (Ob.cells true)))) false (Ob.cells true)) (0 + zK (Row.mk [] false (Ob.cells true)) 0 (16384 : Int) (0 : Int) (Row.mk (List.take ((Int.toNat (↑g2.5 : Int) - 0) * 1)
  (List.drop 0 (bCells g2.2))) true (Ob.cells true))) (16384 : Int) (zB (Row.mk [] false (Ob.cells true)) 0 (16384 : Int) (0 : Int) (Row.mk (List.take ((Int.toNat (↑g2.5 :
  Int) - 0) * 1) (List.drop 0 (bCells g2.2))) true (Ob.cells true))) (Row.mk (List.take ((Int.toNat (↑(List.length g2.2) : Int) - Int.toNat (↑g2.5 : Int)) * 1) (List.drop (0
  + Int.toNat (↑g2.5 : Int) * 1) (bCells g2.2))) true (Ob.cells true)) * 4) (List.drop 0 (gC enG (zL (Row.mk (bCells (zX (Row.mk [] false (Ob.cells true)) 0 (16384 : Int) (0
  : Int) (Row.mk (List.take ((Int.toNat (↑g2.5 : Int) - 0) * 1) (List.drop 0 (bCells g2.2))) true (Ob.cells true)))) false (Ob.cells true)) (0 + zK (Row.mk [] false
  (Ob.cells true)) 0 (16384 : Int) (0 : Int) (Row.mk (List.take ((Int.toNat (↑g2.5 : Int) - 0) * 1) (List.drop 0 (bCells g2.2))) true (Ob.cells true))) (16384 : Int) (zB
  (Row.mk [] false (Ob.cells true)) 0 (16384 : Int) (0 : Int) (Row.mk (List.take ((Int.toNat (↑g2.5 : Int) - 0) * 1) (List.drop 0 (bCells g2.2))) true (Ob.cells true)))
  (Row.mk (List.take ((Int.toNat (↑(List.length g2.2) : Int) - Int.toNat (↑g2.5 : Int)) * 1) (List.drop (0 + Int.toNat (↑g2.5 : Int) * 1) (bCells g2.2))) true (Ob.cells
  true)))))) true (Ob.cells true)) (zM (Row.mk (bCells (zX (Row.mk [] false (Ob.cells true)) 0 (16384 : Int) (0 : Int) (Row.mk (List.take ((Int.toNat (↑g2.5 : Int) - 0) * 1)
  (List.drop 0 (bCells g2.2))) true (Ob.cells true)))) false (Ob.cells true)) (0 + zK (Row.mk [] false (Ob.cells true)) 0 (16384 : Int) (0 : Int) (Row.mk (List.take
  ((Int.toNat (↑g2.5 : Int) - 0) * 1) (List.drop 0 (bCells g2.2))) true (Ob.cells true))) (16384 : Int) (zB (Row.mk [] false (Ob.cells true)) 0 (16384 : Int) (0 : Int)
  (Row.mk (List.take ((Int.toNat (↑g2.5 : Int) - 0) * 1) (List.drop 0 (bCells g2.2))) true (Ob.cells true))) (Row.mk (List.take ((Int.toNat (↑(List.length g2.2) : Int) -
  Int.toNat (↑g2.5 : Int)) * 1) (List.drop (0 + Int.toNat (↑g2.5 : Int) * 1) (bCells g2.2))) true (Ob.cells true))) /\ (IsF (Row.mk (List.take ((Int.toNat (↑(List.length
  g2.3) : Int) - Int.toNat (↑y2 : Int)) * 4) (List.drop (0 + Int.toNat (↑y2 : Int) * 4) (gC enH g2.3))) true (Ob.cells true)) (Int.toNat (↑(List.length g2.3) : Int) -
  Int.toNat (↑y2 : Int)) /\ zM (Row.mk (bCells (zX (Row.mk [] false (Ob.cells true)) 0 (16384 : Int) (0 : Int) (Row.mk (List.take ((Int.toNat (↑g2.5 : Int) - 0) * 1)
  (List.drop 0 (bCells g2.2))) true (Ob.cells true)))) false (Ob.cells true)) (0 + zK (Row.mk [] false (Ob.cells true)) 0 (16384 : Int) (0 : Int) (Row.mk (List.take
  ((Int.toNat (↑g2.5 : Int) - 0) * 1) (List.drop 0 (bCells g2.2))) true (Ob.cells true))) (16384 : Int) (zB (Row.mk [] false (Ob.cells true)) 0 (16384 : Int) (0 : Int)
  (Row.mk (List.take ((Int.toNat (↑g2.5 : Int) - 0) * 1) (List.drop 0 (bCells g2.2))) true (Ob.cells true))) (Row.mk (List.take ((Int.toNat (↑(List.length g2.2) : Int) -
  Int.toNat (↑g2.5 : Int)) * 1) (List.drop (0 + Int.toNat (↑g2.5 : Int) * 1) (bCells g2.2))) true (Ob.cells true)) <= 9223372036854775807)))))) /\ (br (zF (Row.mk (List.take
  (zM (Row.mk (bCells (zX (Row.mk [] false (Ob.cells true)) 0 (16384 : Int) (0 : Int) (Row.mk (List.take ((Int.toNat (↑g2.5 : Int) - 0) * 1) (List.drop 0 (bCells g2.2)))
  true (Ob.cells true)))) false (Ob.cells true)) (0 + zK (Row.mk [] false (Ob.cells true)) 0 (16384 : Int) (0 : Int) (Row.mk (List.take ((Int.toNat (↑g2.5 : Int) - 0) * 1)
  (List.drop 0 (bCells g2.2))) true (Ob.cells true))) (16384 : Int) (zB (Row.mk [] false (Ob.cells true)) 0 (16384 : Int) (0 : Int) (Row.mk (List.take ((Int.toNat (↑g2.5 :
  Int) - 0) * 1) (List.drop 0 (bCells g2.2))) true (Ob.cells true))) (Row.mk (List.take ((Int.toNat (↑(List.length g2.2) : Int) - Int.toNat (↑g2.5 : Int)) * 1) (List.drop (0
  + Int.toNat (↑g2.5 : Int) * 1) (bCells g2.2))) true (Ob.cells true)) * 4) (List.drop 0 (gC enG (zL (Row.mk (bCells (zX (Row.mk [] false (Ob.cells true)) 0 (16384 : Int) (0
  : Int) (Row.mk (List.take ((Int.toNat (↑g2.5 : Int) - 0) * 1) (List.drop 0 (bCells g2.2))) true (Ob.cells true)))) false (Ob.cells true)) (0 + zK (Row.mk [] false
  (Ob.cells true)) 0 (16384 : Int) (0 : Int) (Row.mk (List.take ((Int.toNat (↑g2.5 : Int) - 0) * 1) (List.drop 0 (bCells g2.2))) true (Ob.cells true))) (16384 : Int) (zB
  (Row.mk [] false (Ob.cells true)) 0 (16384 : Int) (0 : Int) (Row.mk (List.take ((Int.toNat (↑g2.5 : Int) - 0) * 1) (List.drop 0 (bCells g2.2))) true (Ob.cells true)))
  (Row.mk (List.take ((Int.toNat (↑(List.length g2.2) : Int) - Int.toNat (↑g2.5 : Int)) * 1) (List.drop (0 + Int.toNat (↑g2.5 : Int) * 1) (bCells g2.2))) true (Ob.cells
  true)))))) true (Ob.cells true)) (Row.mk (List.take ((Int.toNat (↑(List.length g2.3) : Int) - Int.toNat (↑y2 : Int)) * 4) (List.drop (0 + Int.toNat (↑y2 : Int) * 4) (gC
  enH g2.3))) true (Ob.cells true))) (br (zB (Row.mk (bCells (zX (Row.mk [] false (Ob.cells true)) 0 (16384 : Int) (0 : Int) (Row.mk (List.take ((Int.toNat (↑g2.5 : Int) -
  0) * 1) (List.drop 0 (bCells g2.2))) true (Ob.cells true)))) false (Ob.cells true)) (0 + zK (Row.mk [] false (Ob.cells true)) 0 (16384 : Int) (0 : Int) (Row.mk (List.take
  ((Int.toNat (↑g2.5 : Int) - 0) * 1) (List.drop 0 (bCells g2.2))) true (Ob.cells true))) (16384 : Int) (zB (Row.mk [] false (Ob.cells true)) 0 (16384 : Int) (0 : Int)
  (Row.mk (List.take ((Int.toNat (↑g2.5 : Int) - 0) * 1) (List.drop 0 (bCells g2.2))) true (Ob.cells true))) (Row.mk (List.take ((Int.toNat (↑(List.length g2.2) : Int) -
  Int.toNat (↑g2.5 : Int)) * 1) (List.drop (0 + Int.toNat (↑g2.5 : Int) * 1) (bCells g2.2))) true (Ob.cells true)) == (0 : Int) && (zC (Row.mk (bCells (zX (Row.mk [] false
  (Ob.cells true)) 0 (16384 : Int) (0 : Int) (Row.mk (List.take ((Int.toNat (↑g2.5 : Int) - 0) * 1) (List.drop 0 (bCells g2.2))) true (Ob.cells true)))) false (Ob.cells
  true)) (0 + zK (Row.mk [] false (Ob.cells true)) 0 (16384 : Int) (0 : Int) (Row.mk (List.take ((Int.toNat (↑g2.5 : Int) - 0) * 1) (List.drop 0 (bCells g2.2))) true
  (Ob.cells true))) (16384 : Int) (zB (Row.mk [] false (Ob.cells true)) 0 (16384 : Int) (0 : Int) (Row.mk (List.take ((Int.toNat (↑g2.5 : Int) - 0) * 1) (List.drop 0 (bCells
  g2.2))) true (Ob.cells true))) (Row.mk (List.take ((Int.toNat (↑(List.length g2.2) : Int) - Int.toNat (↑g2.5 : Int)) * 1) (List.drop (0 + Int.toNat (↑g2.5 : Int) * 1)
  (bCells g2.2))) true (Ob.cells true)) == (0 : Int) && true)) (br (Int.ofNat (zN (Row.mk (bCells (zX (Row.mk [] false (Ob.cells true)) 0 (16384 : Int) (0 : Int) (Row.mk
  (List.take ((Int.toNat (↑g2.5 : Int) - 0) * 1) (List.drop 0 (bCells g2.2))) true (Ob.cells true)))) false (Ob.cells true)) (0 + zK (Row.mk [] false (Ob.cells true)) 0
  (16384 : Int) (0 : Int) (Row.mk (List.take ((Int.toNat (↑g2.5 : Int) - 0) * 1) (List.drop 0 (bCells g2.2))) true (Ob.cells true))) (16384 : Int) (zB (Row.mk [] false
  (Ob.cells true)) 0 (16384 : Int) (0 : Int) (Row.mk (List.take ((Int.toNat (↑g2.5 : Int) - 0) * 1) (List.drop 0 (bCells g2.2))) true (Ob.cells true))) (Row.mk (List.take
  ((Int.toNat (↑(List.length g2.2) : Int) - Int.toNat (↑g2.5 : Int)) * 1) (List.drop (0 + Int.toNat (↑g2.5 : Int) * 1) (bCells g2.2))) true (Ob.cells true))) == (0 : Int))
  (((True /\ (True /\ (True /\ True)))) /\ ((true = true) /\ ((Eq (α := List Value) (gC enA l) (gC enA g2.1)) /\ ((Plain (gC enA l)) /\ True)))) ((true = false) /\ ((Eq (α
  := List Value) (gC enA l) (gC enA g2.1)) /\ ((Plain (gC enA l)) /\ True)))) ((true = false) /\ ((Eq (α := List Value) (gC enA l) (gC enA g2.1)) /\ ((Plain (gC enA l)) /\
  True)))) ((true = false) /\ ((Eq (α := List Value) (gC enA l) (gC enA g2.1)) /\ ((Plain (gC enA l)) /\ True))))) False)) False))))) False))
  False))))))))))))))))))))))))))))))))))))))))))))) := by kernel_rfl
theorem tB_ok : ∀ x ∈ tB, EntOk Try.prog x := all_cons eWiF_ok (all_cons eRunF_ok (all_cons ePut_ok (all_cons eFeed_ok (all_cons eSameF_ok (all_nil)))))
theorem enA_k (a : Af) : (enA a).length = 4 := rfl
theorem cAf {l : List Af} {i : Nat} (h : i < l.length) : ((gC enA l)[i * 4]? = some (.int .i64 l[i].t) ∧ (gC enA l)[i * 4 + 1]? = some (.int .i64 l[i].f) ∧ (gC enA l)[i * 4 + 2]? = some (.int .i64 l[i].s) ∧ (gC enA l)[i * 4 + 3]? = some (.slice (some ⟨gCode (bCells l[i].p), 0, some 0⟩) l[i].p.length 1)) :=
  ⟨(gC_get0 enA_k l i h (by omega)).trans rfl, (gC_get enA_k l i 1 h (by omega)).trans rfl, (gC_get enA_k l i 2 h (by omega)).trans rfl, (gC_get enA_k l i 3 h (by omega)).trans rfl⟩
theorem enA_pl (l : List Af) : Plain (gC enA l) := gC_plain (fun a v hv => by
  unfold enA at hv
  simp only [List.mem_cons, List.mem_nil_iff, or_false] at hv
  rcases hv with rfl | rfl | rfl | rfl <;> rfl) l
theorem inv_more {g : Gb} {s : Sb} (hi : InvB g s) (hic : s.i < g.l.length) (h20 : s.i < 20) (P : List UInt8) (hP : P.length ≤ 300) (t f u : Int) (y : Gf) (hy : FOk y) (hv : vw y = (t, f, u, P))
    (h : (frO s.b P t f u).length > s.b.length) : InvB g ⟨s.i + 1, frO s.b P t f u, s.w ++ [y], s.e ++ [((frO s.b P t f u).length : Int)]⟩ := by
  obtain ⟨h1, L, h2, h3, h4, h5, k1, k2, k3, k4, k5, k6⟩ := hi
  have hr : rightB t f u P.length = true := by
    cases hR : rightB t f u P.length with
    | true => rfl
    | false => unfold frO at h; rw [hR] at h; simp at h
  have hr2 := hr
  unfold rightB at hr2
  obtain ⟨r1, r2, r3, r4, r5, r6, r7⟩ := of_decide_eq_true hr2
  obtain ⟨T, rfl⟩ := Int.eq_ofNat_of_zero_le r1
  obtain ⟨F, rfl⟩ := Int.eq_ofNat_of_zero_le r3
  obtain ⟨S, rfl⟩ := Int.eq_ofNat_of_zero_le r5
  have hf : frO s.b P T F S = s.b ++ wire ⟨T, F, S, P⟩ := by unfold frO wire; rw [if_pos hr, List.append_assoc]
  have hl : (s.b ++ wire ⟨T, F, S, P⟩).length = s.b.length + (9 + P.length) := by rw [List.length_append, wire_len]
  rw [hf]
  refine ⟨by simp only; omega, L ++ [⟨T, F, S, P⟩], ?_, ?_, ?_, by simp only; omega, ?_, ?_, ?_, ?_, ?_, ?_⟩
  · simp only [List.length_append, List.length_cons, List.length_nil]; omega
  · simp only [List.length_append, List.length_cons, List.length_nil]; omega
  · simp only [hl]; omega
  · intro a ha
    rcases List.mem_append.1 ha with ha | ha
    · exact k1 a ha
    · rw [List.mem_singleton] at ha; subst ha; exact ⟨by simp only; omega, by simp only; omega, by simp only; omega, hP⟩
  · simp only [wires_app, wires_sing, k2]
  · simp only
    rw [hl, ends_snoc, k3, k2, Nat.zero_add]
  · simp only [List.map_append, k4, List.map_cons, List.map_nil, vw_toG, hv]
  · intro x hx
    rcases List.mem_append.1 hx with hx | hx
    · exact k5 x hx
    · rw [List.mem_singleton] at hx; subst hx; exact hy
  · simp only [List.length_append, k6, List.length_cons, List.length_nil]
theorem inv_same {g : Gb} {s : Sb} (hi : InvB g s) (hic : s.i < g.l.length) (h20 : s.i < 20) (P : List UInt8) (t f u : Int)
    (h : ¬ (frO s.b P t f u).length > s.b.length) : InvB g ⟨s.i + 1, frO s.b P t f u, s.w, s.e⟩ := by
  obtain ⟨h1, L, h2, h3, h4, h5, k⟩ := hi
  have hf : frO s.b P t f u = s.b := by
    cases hR : rightB t f u P.length with
    | true => exact absurd (by unfold frO; rw [if_pos hR, List.length_append, List.length_append]; show s.b.length + 9 + P.length > s.b.length; omega) h
    | false => unfold frO; rw [hR]; rfl
  rw [hf]
  exact ⟨by simp only; omega, L, by simp only; omega, h3, by simp only; omega, by simp only; omega, k⟩
theorem gB_mk (p P : List UInt8) (n : Nat) (h : p.take n = P) (t f u : Int) : vw ⟨t, f, u, gCode (bCells p), 0, n⟩ = (t, f, u, P) := by
  have hz : gCells (gCode (bCells p)) = bCells p := gCells_code (bCells_g _)
  unfold vw gB
  simp only
  rw [hz, List.drop_zero, bCells_take, h, bCells_bOf]
theorem fOk_mk (p : List UInt8) (n : Nat) (hn : n ≤ p.length) (h2 : n ≤ 16777216) (t f u : Int) : FOk ⟨t, f, u, gCode (bCells p), 0, n⟩ := by
  have hz : gCells (gCode (bCells p)) = bCells p := gCells_code (bCells_g _)
  refine ⟨p.take n, ?_, ?_, h2, ?_⟩
  · simp only; rw [hz, List.drop_zero, bCells_take]
  · simp only; rw [List.length_take]; omega
  · simp only; rw [hz, bCells_len]; omega
theorem B_piece : PieceOk EtB 1 (7, pB1, specB) := by
  refine piece_loop mixed (calls_envT tB_ok) (lok_envT _ _) lm_none (n := 60) (by kernel_rfl) (fun _ : Gb => b0) (fun g s => InvB g s) (fun g s => g.l.length - s.i) (sl := slB) (rl := rlB) (fun g hg => ⟨Nat.zero_le _, [], Nat.le_refl _, by simp, by simp [b0], by simp [b0], by simp, rfl, rfl, rfl, by simp [b0], rfl⟩) (fun g s hg hi => ?_)
  refine (B_round g s _ _).mpr ?_
  refine br_if (fun hlt => ?_) (fun hlt => ?_)
  · refine br_if (fun hlt4 => ?_) (fun hlt4 => ?_)
    · have hic : s.i < g.l.length := by have : (s.i : Int) < (g.l.length : Int) := hlt; omega
      obtain ⟨a0, a1, a2, a3⟩ := cAf hic
      have e0 := cI_of a0; have e1 := cI_of a1; have e2 := cI_of a2
      obtain ⟨z1, z2, z3⟩ := cZ_of a3
      have hz : gCells (gCode (bCells g.l[s.i].p)) = bCells g.l[s.i].p := gCells_code (bCells_g _)
      have hi0 := hi
      obtain ⟨h1, L, h2, h3, h4, h5, k1, k2, k3, k4, k5, k6⟩ := hi0
      have k7 : s.e.length = L.length := by rw [k3, ends_len]
      have tw : List.take (s.w.length * 4) (gC enH s.w) = gC enH s.w := List.take_of_length_le (by rw [gC_len enH_k]; exact Nat.le_refl _)
      have te : List.take s.e.length (iCells IntKind.i64 s.e) = iCells .i64 s.e := List.take_of_length_le (by rw [iCells_len]; exact Nat.le_refl _)
      simp (disch := omega) only [ofNat_eq, toNat_cast, Nat.zero_add, Nat.add_zero, Nat.mul_one, List.drop_zero, bCells_len, bCells_drop, bCells_take, bCells_app, bCells_one, bCells_plain, List.length_replicate, List.length_append, List.length_take, List.length_drop, List.take_length, and_true, true_and, and_self, decide_true, List.length_nil, List.length_cons, Nat.sub_zero, dB_mk, dB_ro, List.take_zero, toNat_cast, e0, e1, e2, z1, z2, z3, a0, a1, a2, a3, hz, brD, zPn, zP_mk]
      refine br_if (fun hp => ?_) (fun hp => ?_)
      · have hpl : (g.l[s.i].p.take 300).length ≤ 300 := by rw [List.length_take]; omega
        obtain ⟨y, hy⟩ : ∃ y : Gf, y = ⟨g.l[s.i].t, g.l[s.i].f, g.l[s.i].s, gCode (bCells g.l[s.i].p), 0, 300⟩ := ⟨_, rfl⟩
        have y1 : FOk y := by rw [hy]; exact fOk_mk _ _ (by omega) (by omega) _ _ _
        have y2 : vw y = (g.l[s.i].t, g.l[s.i].f, g.l[s.i].s, (g.l[s.i].p.take 300)) := by rw [hy]; exact gB_mk _ _ _ rfl _ _ _
        refine br_dec (by omega) ⟨⟨⟨Nat.le_refl _, by omega⟩, isB_mk _ _ rfl, isB_mk _ _ (by rw [List.length_take]; omega), by omega, by omega⟩, br_if (fun hgt => ?_) (fun hgt => ?_)⟩
        · refine br_dec (by rw [gC_len enH_k]; exact Nat.le_refl _) (br_dec (by rw [iCells_len]; exact Nat.le_refl _) ⟨⟨s.i + 1, frO s.b (g.l[s.i].p.take 300) g.l[s.i].t g.l[s.i].f g.l[s.i].s, s.w ++ [y], s.e ++ [((frO s.b (g.l[s.i].p.take 300) g.l[s.i].t g.l[s.i].f g.l[s.i].s).length : Int)]⟩, inv_more hi hic (by omega) _ hpl _ _ _ y y1 y2 (by omega), by simp only; omega, rfl, by simp only [List.length_append, List.length_cons, List.length_nil], by simp only [List.length_append, List.length_cons, List.length_nil], (i64_succ (by omega)).symm, enA_pl _, rfl, ?_, enH_pl _, ?_, iCells_plain _ _⟩)
          · simp only
            rw [tw, ← gC_app, hy]; rfl
          · simp only
            rw [te, ← iCells_app]; rfl
        · exact ⟨⟨s.i + 1, frO s.b (g.l[s.i].p.take 300) g.l[s.i].t g.l[s.i].f g.l[s.i].s, s.w, s.e⟩, inv_same hi hic (by omega) _ _ _ _ (by omega), by simp only; omega, rfl, rfl, rfl, (i64_succ (by omega)).symm, enA_pl _, rfl, rfl, enH_pl _, rfl, iCells_plain _ _⟩
      · have hpl : g.l[s.i].p.length ≤ 300 := by omega
        obtain ⟨y, hy⟩ : ∃ y : Gf, y = ⟨g.l[s.i].t, g.l[s.i].f, g.l[s.i].s, gCode (bCells g.l[s.i].p), 0, g.l[s.i].p.length⟩ := ⟨_, rfl⟩
        have y1 : FOk y := by rw [hy]; exact fOk_mk _ _ (Nat.le_refl _) (by omega) _ _ _
        have y2 : vw y = (g.l[s.i].t, g.l[s.i].f, g.l[s.i].s, g.l[s.i].p) := by rw [hy]; exact gB_mk _ _ _ (List.take_length ..) _ _ _
        refine ⟨⟨⟨Nat.le_refl _, by omega⟩, isB_mk _ _ rfl, isB_mk _ _ rfl, by omega, by omega⟩, br_if (fun hgt => ?_) (fun hgt => ?_)⟩
        · refine br_dec (by rw [gC_len enH_k]; exact Nat.le_refl _) (br_dec (by rw [iCells_len]; exact Nat.le_refl _) ⟨⟨s.i + 1, frO s.b g.l[s.i].p g.l[s.i].t g.l[s.i].f g.l[s.i].s, s.w ++ [y], s.e ++ [((frO s.b g.l[s.i].p g.l[s.i].t g.l[s.i].f g.l[s.i].s).length : Int)]⟩, inv_more hi hic (by omega) _ hpl _ _ _ y y1 y2 (by omega), by simp only; omega, rfl, by simp only [List.length_append, List.length_cons, List.length_nil], by simp only [List.length_append, List.length_cons, List.length_nil], (i64_succ (by omega)).symm, enA_pl _, rfl, ?_, enH_pl _, ?_, iCells_plain _ _⟩)
          · simp only
            rw [tw, ← gC_app, hy]; rfl
          · simp only
            rw [te, ← iCells_app]; rfl
        · exact ⟨⟨s.i + 1, frO s.b g.l[s.i].p g.l[s.i].t g.l[s.i].f g.l[s.i].s, s.w, s.e⟩, inv_same hi hic (by omega) _ _ _ _ (by omega), by simp only; omega, rfl, rfl, rfl, (i64_succ (by omega)).symm, enA_pl _, rfl, rfl, enH_pl _, rfl, iCells_plain _ _⟩
    · exact ⟨s, hi, by simp [bCells_plain, iCells_plain, enA_pl, enH_pl]⟩
  · exact ⟨s, hi, by simp [bCells_plain, iCells_plain, enA_pl, enH_pl]⟩
theorem D_piece : PieceOk EtB 1 (7, pB2, specD) := by
  refine piece_loop mixed (calls_envT tB_ok) (lok_envT _ _) lm_none (n := 60) (by kernel_rfl) (fun _ : Gd => (0 : Nat)) (fun g n => n ≤ g.e.length ∧ ∀ j < n, g.e.getD j 0 ≤ (g.k : Int)) (fun g n => g.e.length - n) (sl := slD) (rl := fun g _ => rlD g) (fun g hg => ⟨Nat.zero_le _, fun j hj => absurd hj (Nat.not_lt_zero _)⟩) (fun g n hg hi => ?_)
  refine (D_round g n _ _).mpr ?_
  have hg : g.e.length ≤ 20 := hg
  refine br_if (fun hlt => ?_) (fun hlt => ?_)
  · have hn : n < g.e.length := by have : (n : Int) < (g.e.length : Int) := hlt; omega
    have c1 := iCells_cell (k := .i64) hn
    have c2 := iCells_at (k := .i64) hn
    simp (disch := omega) only [ofNat_eq, toNat_cast, Nat.zero_add, Nat.add_zero, Nat.mul_one, List.drop_zero, bCells_len, bCells_drop, bCells_take, bCells_app, bCells_one, bCells_plain, List.length_replicate, List.length_append, List.length_take, List.length_drop, List.take_length, and_true, true_and, and_self, decide_true, List.length_nil, List.length_cons, Nat.sub_zero, dB_mk, dB_ro, List.take_zero, toNat_cast, c1, brD]
    refine ⟨by rw [c2, c1], br_if (fun hle => ?_) (fun hle => ?_)⟩
    · refine ⟨n + 1, ⟨by omega, fun j hj => ?_⟩, by omega, (i64_succ (by omega)).symm, by simp [bCells_plain, iCells_plain, enA_pl, enH_pl]⟩
      rcases Nat.lt_or_ge j n with h | h
      · exact hi.2 j h
      · have : j = n := by omega
        subst this; exact hle
    · exact ⟨n, ⟨hi.1, hi.2, fun _ => by omega⟩, by simp [bCells_plain, iCells_plain, enA_pl, enH_pl]⟩
  · exact ⟨n, ⟨hi.1, hi.2, fun h => absurd (show (n : Int) < (g.e.length : Int) by omega) hlt⟩, by simp [bCells_plain, iCells_plain, enA_pl, enH_pl]⟩
theorem B_law (l : List Af) (c : Int) (hl : l.length ≤ maxLen) (ho : ∀ x ∈ l, AOk x) (hc : I64 c) : Con Try.prog 7 [slc4 0 l.length, .int .i64 c] [gRo enA l] (.bool true) [gRo enA l] := by
  refine con_vc (E := EtB) mixed (calls_envT tB_ok) (lok_envT _ _) (M := mB) (lm_two B_piece D_piece) (B_vc l c) ?_
  simp only [ofNat_eq, toNat_cast, Nat.zero_add, Nat.add_zero, Nat.mul_one, List.drop_zero, bCells_len, bCells_drop, bCells_take, bCells_app, bCells_one, bCells_plain, List.length_replicate, List.length_append, List.length_take, List.length_drop, List.take_length, and_true, true_and, and_self, decide_true, List.length_nil, List.length_cons, Nat.sub_zero, dB_mk, dB_ro, List.take_zero]
  refine ⟨⟨l, c⟩, ho, rfl, rfl, rfl, enA_pl l, fun y hy => ?_⟩
  obtain ⟨i1, i2⟩ := Go.Proofs.Ytkeiogmapogpnaa.tk.inside_in c 0 y.b.length (by omega)
  obtain ⟨K, hK⟩ := Int.eq_ofNat_of_zero_le i1
  rw [hK] at i2
  obtain ⟨h1, L, h2, h3, h4, h5, k1, k2, k3, k4, k5, k6⟩ := hy
  have k7 : y.e.length = L.length := by rw [k3, ends_len]
  simp only [Int.ofNat_eq_natCast, hK]
  refine ⟨⟨hc, by omega, by omega, by omega⟩, ⟨l, y.b, y.w, y.e, K⟩, by simp only; omega, rfl, rfl, rfl, rfl, rfl, enA_pl _, rfl, rfl, enH_pl _, rfl, iCells_plain _ _, fun n hd => ?_⟩
  obtain ⟨d1, d2, d3⟩ := hd
  simp only at d1 d2 d3
  simp only
  obtain ⟨p1, hp1⟩ : ∃ p1, p1 = List.take K y.b := ⟨_, rfl⟩
  obtain ⟨p2, hp2⟩ : ∃ p2, p2 = List.drop K y.b := ⟨_, rfl⟩
  have l1 : p1.length = K := by rw [hp1, List.length_take]; omega
  have l2 : p2.length = y.b.length - K := by rw [hp2, List.length_drop]
  obtain ⟨hw, hrun⟩ := run_cut 16384 (by omega) L k1 K n (by rw [← k2]; omega) (by omega) (fun j hj => by rw [← k3]; exact d2 j hj) (fun hj => by rw [← k3]; exact d3 (by omega)) p1.length (by omega)
  rw [← k2, ← hp1] at hrun
  obtain ⟨W, hW⟩ : ∃ W, W = (wires (L.take n)).length := ⟨_, rfl⟩
  rw [← hW] at hw hrun
  have x1 := fdR_new 16384 p1
  rw [hrun] at x1
  have f1 : fdL 16384 ⟨[], 0, false⟩ p1 = L.take n := by unfold fdL; rw [x1]; rfl
  have f2 : fdB 16384 ⟨[], 0, false⟩ p1 = false := by unfold fdB; rw [x1]; rfl
  obtain ⟨t1, t2⟩ := fed_more (p := p1) (fed_nil 16384)
  rw [List.nil_append, List.nil_append, f1] at t1
  rw [f2] at t2
  obtain ⟨r, hr⟩ : ∃ r, r = fdS 16384 ⟨[], 0, false⟩ p1 := ⟨_, rfl⟩
  rw [← hr] at t1 t2
  have rl : r.x.length - r.k = K - W := by
    have := (t1.2.2 _ (Nat.le_refl _)).2.2 t2
    rw [hrun] at this
    have := congrArg List.length this
    unfold lf at this
    rw [List.length_drop, List.length_drop, l1] at this
    exact this
  obtain ⟨v1, v2⟩ := fed_more (p := p2) t1
  have hpp : p1 ++ p2 = y.b := by rw [hp1, hp2, List.take_append_drop]
  rw [hpp] at v1
  have hall := run_wires 16384 (by omega) L k1 [] y.b.length (by rw [List.append_nil, k2]; exact Nat.le_refl _)
  rw [List.append_nil, ← k2, run_nil] at hall
  obtain ⟨u1, u2, u3⟩ := v1.2.2 _ (Nat.le_refl _)
  rw [hall] at u1 u2 u3
  simp only [List.append_nil, Nat.add_zero] at u1 u2 u3
  have g1 : fdL 16384 r p2 = L.drop n := List.append_cancel_left (u2.trans (List.take_append_drop n L).symm)
  have g2 : fdB 16384 r p2 = false := by rw [← v2, u1]
  have g3 : (fdS 16384 r p2).x.length - (fdS 16384 r p2).k = 0 := by
    have := congrArg List.length (u3 u1)
    unfold lf at this
    rw [List.length_drop, List.length_drop] at this
    omega
  obtain ⟨e1, e2, e3, e4, e5, e6, e7⟩ := z_new 16384 p1
  rw [f1] at e1 e7
  rw [f2] at e5 e6
  rw [← hr] at e2 e3 e4
  obtain ⟨q1, q2, q3, q4, q5, q6, q7⟩ := z_feed r 16384 p2
  rw [g1] at q1 q7
  rw [g2] at q5 q6
  rw [t2] at q1 q2 q3 q4 q5 q6 q7
  rw [g3] at q4
  rw [rl] at e4
  have hd2 : List.take (y.b.length - K) p2 = p2 := List.take_of_length_le (by omega)
  have hk8 : (L.take n).length = n := by rw [List.length_take]; omega
  have hk9 : (L.drop n).length = L.length - n := List.length_drop
  have hw8 : (y.w.take n).length = n := by rw [List.length_take]; omega
  have hw9 : (y.w.drop n).length = L.length - n := by rw [List.length_drop]; omega
  have s1 : List.take (n * 4) (gC enG (L.take n)) = gC enG (L.take n) := List.take_of_length_le (by rw [gC_len enG_k, hk8]; exact Nat.le_refl _)
  have s2 : List.take ((L.length - n) * 4) (gC enG (L.drop n)) = gC enG (L.drop n) := List.take_of_length_le (by rw [gC_len enG_k, hk9]; exact Nat.le_refl _)
  have s3 : List.take (n * 4) (gC enH y.w) = gC enH (y.w.take n) := gC_take enH_k _ _
  have s4 : List.take ((L.length - n) * 4) (List.drop (n * 4) (gC enH y.w)) = gC enH (y.w.drop n) := by
    rw [gC_drop enH_k]; exact List.take_of_length_le (by rw [gC_len enH_k, hw9]; exact Nat.le_refl _)
  have zf1 : zF ⟨gC enG (L.take n), true, .cells true⟩ ⟨gC enH (y.w.take n), true, .cells true⟩ = true := by
    rw [enG_toG, zF_mk]; exact decide_eq_true (by rw [List.map_take, List.map_take, List.map_take, k4])
  have zf2 : zF ⟨gC enG (L.drop n), true, .cells true⟩ ⟨gC enH (y.w.drop n), true, .cells true⟩ = true := by
    rw [enG_toG, zF_mk]; exact decide_eq_true (by rw [List.map_drop, List.map_drop, List.map_drop, k4])
  have fL1 : ∀ f ∈ L.take n, f.p.length ≤ 16777216 := fun f hf => by have := (k1 f (List.mem_of_mem_take hf)).2.2.2; omega
  have fL2 : ∀ f ∈ L.drop n, f.p.length ≤ 16777216 := fun f hf => by have := (k1 f (List.mem_of_mem_drop hf)).2.2.2; omega
  have fW1 : IsF ⟨gC enH (y.w.take n), true, .cells true⟩ n := ⟨y.w.take n, rfl, hw8.symm, fun x hx => k5 x (List.mem_of_mem_take hx)⟩
  have fW2 : IsF ⟨gC enH (y.w.drop n), true, .cells true⟩ (L.length - n) := ⟨y.w.drop n, rfl, hw9.symm, fun x hx => k5 x (List.mem_of_mem_drop hx)⟩
  have hIsR : IsR ⟨bCells r.x, false, .cells true⟩ r.k (K - W) (scB false) (coB false) ⟨bCells p2, true, .cells true⟩ (y.b.length - K) :=
    ⟨r, p2, rfl, rfl, rl.symm, by rw [t2], by rw [t2], t1.1, rfl, l2.symm, by have := t1.2.1; omega⟩
  simp only [← hp1, ← hp2, hd2, e1, e2, e3, e4, e5, e6, e7, q1, q2, q3, q4, q5, q6, q7]
  simp only [hk8, hk9, k6, s1, s2, s3, s4]
  refine br_if (fun hn => ?_) (fun hn => ?_)
  · have hnn : n - 1 < y.e.length := by omega
    have w1 : IntKind.i64.wrap ((n : Int) - 1) = ((n - 1 : Nat) : Int) := by rw [wr64_id (by unfold I64; omega)]; omega
    have c1 := iCells_cell (k := .i64) hnn
    have c2 := iCells_at (k := .i64) hnn
    rw [c1] at c2
    have c3 : y.e.getD (n - 1) 0 = (W : Int) := by rw [k3, ends_get L 0 (n - 1) (by omega), hW, Nat.sub_add_cancel (by omega), Nat.zero_add]
    rw [c3] at c1 c2
    have w2 : IntKind.i64.wrap ((K : Int) - (W : Int)) = ((K - W : Nat) : Int) := by rw [wr64_id (by unfold I64; omega)]; omega
    simp (disch := omega) only [w1, toNat_cast, c1, brD, w2]
    refine ⟨c2, ?_⟩
    refine ⟨⟨by omega, enG_pl _, isB_mk _ _ l1.symm, by omega⟩, ⟨⟨⟨by rw [gC_len enG_k, hk8]; exact Nat.le_refl _, enG_pl _⟩, by rw [gC_len enH_k]; omega, enH_pl _⟩, isF_mk hk8.symm fL1, fW1, by omega⟩, br_nb (by rw [zf1]; rfl) (br_nb rfl (br_nb (by simp) ⟨⟨by omega, enG_pl _, hIsR⟩, ⟨⟨⟨by rw [gC_len enG_k, hk9]; exact Nat.le_refl _, enG_pl _⟩, by rw [gC_len enH_k]; omega, enH_pl _⟩, isF_mk hk9.symm fL2, fW2, by omega⟩, br_b zf2 (br_b rfl (br_b rfl ⟨trivial, enA_pl _⟩))⟩))⟩
  · have hn0 : n = 0 := by omega
    have hW0 : W = 0 := by rw [hW, hn0]; rfl
    have w2 : IntKind.i64.wrap ((K : Int) - 0) = ((K - W : Nat) : Int) := by rw [wr64_id (by unfold I64; omega)]; omega
    simp (disch := omega) only [brD, w2]
    refine ⟨⟨by omega, enG_pl _, isB_mk _ _ l1.symm, by omega⟩, ⟨⟨⟨by rw [gC_len enG_k, hk8]; exact Nat.le_refl _, enG_pl _⟩, by rw [gC_len enH_k]; omega, enH_pl _⟩, isF_mk hk8.symm fL1, fW1, by omega⟩, br_nb (by rw [zf1]; rfl) (br_nb rfl (br_nb (by simp) ⟨⟨by omega, enG_pl _, hIsR⟩, ⟨⟨⟨by rw [gC_len enG_k, hk9]; exact Nat.le_refl _, enG_pl _⟩, by rw [gC_len enH_k]; omega, enH_pl _⟩, isF_mk hk9.symm fL2, fW2, by omega⟩, br_b zf2 (br_b rfl (br_b rfl ⟨trivial, enA_pl _⟩))⟩))⟩
theorem ga_of {Q : Nat → Prop} (L : List (List Value)) (hL : ∀ c ∈ L, GCells Q [.p (.i .i64), .p (.i .i64), .p (.i .i64), .sl 22 5 [.i .u8]] c) :
    ∃ a : List Af, a.length = L.length ∧ L.flatten = gC enA a ∧ ∀ x ∈ a, AOk x := by
  induction L with
  | nil => exact ⟨[], rfl, rfl, fun x hx => by simp at hx⟩
  | cons c L ih =>
    obtain ⟨a, h1, h2, h3⟩ := ih (fun d hd => hL d (List.mem_cons_of_mem _ hd))
    have hc := hL c (List.mem_cons_self ..)
    match c, hc with
    | [v0, v1, v2, v3], hc =>
      obtain ⟨f0, f1, f2, f3, _⟩ := hc
      obtain ⟨t, rfl, w0⟩ := cq_i f0
      obtain ⟨f, rfl, w1⟩ := cq_i f1
      obtain ⟨s, rfl, w2⟩ := cq_i f2
      obtain ⟨n, cells, rfl, hel, hm, hq⟩ := f3
      obtain ⟨p, hl, rfl⟩ := elems_bytes hel.elems
      subst hl
      refine ⟨⟨t, f, s, p⟩ :: a, by rw [List.length_cons, List.length_cons, h1], ?_, ?_⟩
      · rw [List.flatten_cons, h2, gC_cons]; rfl
      · intro x hx
        rcases List.mem_cons.1 hx with rfl | hx
        · exact ⟨Sy.wf64 w0, Sy.wf64 w1, Sy.wf64 w2, hm⟩
        · exact h3 x hx
end Go.Proofs.Ytkeiogmapogpnaa.fe
