/- Both replies of a rule to a talk. -/
import Derived.Test.YtkjppedfedaenaaGreatDoorSz9
import Derived.Test.YtkjppedfedaenaaGreatDoorRows
import Derived.Test.YtkjppedfedaenaaGreatDoorLcyB
set_option maxRecDepth 20000
set_option linter.unusedSimpArgs false
set_option linter.unusedVariables false
namespace Go.Proofs.YtkjppedfedaenaaGreatDoor.cy
open Go Go.Ev Go.Sy Go.RowKit Go.Proofs.YtkjppedfedaenaaGreatDoor.gl Go.Proofs.YtkjppedfedaenaaGreatDoor.tk Go.Proofs.YtkjppedfedaenaaGreatDoor.sn
def nIf : List UInt8 := [105, 102, 45, 110, 111, 110, 101, 45, 109, 97, 116, 99, 104]
def nMe : List UInt8 := [58, 109, 101, 116, 104, 111, 100]
def nHe : List UInt8 := [72, 69, 65, 68]
def nSt : List UInt8 := [58, 115, 116, 97, 116, 117, 115]
def nCc : List UInt8 := [99, 97, 99, 104, 101, 45, 99, 111, 110, 116, 114, 111, 108]
def nEt : List UInt8 := [101, 116, 97, 103]
structure Ru where
  st : Int
  c : List UInt8
  t : List UInt8
  b : List UInt8
def ruC (r : Ru) (z n : Nat) : List Value := [.int .i64 r.st, .string (bs r.c), .string (bs r.t), .string (bs r.b), .slice (some ⟨z, 0, none⟩) n 2]
def isU (r : Ru) (F : List Fl) : Bool := decide (r.t ≠ [] ∧ fsL nIf F = r.t)
def stU (r : Ru) (F : List Fl) : Int := if isU r F = true then 304 else r.st
def boU (r : Ru) (F : List Fl) : List UInt8 := if fsL nMe F = nHe ∨ stU r F = 204 ∨ isU r F = true then [] else r.b
def heU (r : Ru) (F : List Fl) : List Fl := [⟨nSt, digL (stU r F)⟩] ++ ((if r.c = [] then [] else [⟨nCc, r.c⟩]) ++ (if r.t = [] then [] else [⟨nEt, r.t⟩]))
def toR (f : Fl) : Rw := ⟨f.n, f.v, 1⟩
def reU (r : Ru) (F X : List Fl) : List Rw := (heU r F ++ X).map toR
structure GRe where
  P : List Rw
  X : List Fl
  F : List Fl
  b : List UInt8
def pRe : List Nat := [0, 1, 0, 1, 1, 1, 1, 1, 1, 1]
def slRe (g : GRe) (i : Nat) : List (Nat × Value) := [(7, .string (bs g.b)), (12, .slice (some ⟨2, 0, none⟩) (g.P.length + i) 3), (70, .slice (some ⟨0, 0, none⟩) g.X.length 2), (71, .int .i64 (g.X.length : Nat)), (72, .int .i64 (i : Nat))]
def rlRe (g : GRe) (i : Nat) : List (Nat × Row) := [(0, gRo enF g.X), (1, gRo enF g.F), (2, gOwn enR (g.P ++ (g.X.take i).map toR))]
def wsRe (g : GRe) : List (Gate Unit) := [⟨.exit 0, fun _ => True, fun _ => [(7, .string (bs g.b)), (12, .slice (some ⟨2, 0, none⟩) (g.P.length + g.X.length) 3)], fun _ => rlRe g g.X.length, 3⟩]
def specRe : Sy.Spec := specOf 2 3 87 (fun g : GRe => g.P.length ≤ 3 ∧ g.X.length ≤ 1048576) (fun g => slRe g 0) (fun g => rlRe g 0) wsRe
def mRe := mOf [(7, pRe, specRe)]
noncomputable def tRe : List EntM := [eVa, eDg]
noncomputable abbrev EtRe : Env := envT Tryz.prog tRe
theorem Re_round (g : GRe) (i : Nat) (Inv : Nat → Prop) (m : Nat → Nat) : mev EtRe noM 60 7 (0 :: pRe) false (codeOf Tryz.prog 7 (0 :: pRe)) ⟨mkOv (slRe g i), 87, []⟩ none ⟨mkR (rlRe g i), 3⟩ (roundK 2 3 87 Inv m (slRe g) (rlRe g) (wsRe g) i) =
  (br (decide ((↑i : Int) < (↑(List.length g.2) : Int))) (br (decide ((0 : Int) <= (↑i : Int) /\ (↑i : Int) < (↑(List.length g.2) : Int))) ((Eq (α := Option Value) ((gC enF
  g.2)[0 + Int.toNat (↑i : Int) * 2]?) (some (Value.string (cellS (gC enF g.2) (0 + Int.toNat (↑i : Int) * 2))))) /\ ((Eq (α := Option Value) ((gC enF g.2)[0 + Int.toNat (↑i
  : Int) * 2 + 1]?) (some (Value.string (cellS (gC enF g.2) (0 + Int.toNat (↑i : Int) * 2 + 1))))) /\ (br (decide (List.length g.1 + i + 1 <= 16777216)) (br (decide (0 +
  (List.length g.1 + i) * 3 <= List.length (gC enR (g.1 ++ List.map toR (List.take i g.2))))) (∃ j : Nat, ((Inv j) /\ ((m j < m i) /\ ((bs g.4 = bs g.4) /\ ((0 = 0) /\
  ((List.length g.1 + j = List.length g.1 + i + 1) /\ ((0 = 0) /\ ((List.length g.2 = List.length g.2) /\ (((↑(List.length g.2) : Int) = (↑(List.length g.2) : Int)) /\ (((↑j
  : Int) = IntKind.wrap IntKind.i64 ((↑i : Int) + (1 : Int))) /\ ((Eq (α := List Value) (gC enF g.2) (gC enF g.2)) /\ ((Plain (gC enF g.2)) /\ ((Eq (α := List Value) (gC enF
  g.3) (gC enF g.3)) /\ ((Plain (gC enF g.3)) /\ ((Eq (α := List Value) (gC enR (g.1 ++ List.map toR (List.take j g.2))) (List.take ((List.length g.1 + i) * 3) (List.drop 0
  (gC enR (g.1 ++ List.map toR (List.take i g.2)))) ++ [Value.string (cellS (gC enF g.2) (0 + Int.toNat (↑i : Int) * 2)), Value.string (cellS (gC enF g.2) (0 + Int.toNat (↑i
  : Int) * 2 + 1)), Value.int IntKind.i64 (1 : Int)])) /\ ((Plain (gC enR (g.1 ++ List.map toR (List.take j g.2)))) /\ True)))))))))))))))) False) False))) False) (∃ y :
  Unit, ((True) /\ ((bs g.4 = bs g.4) /\ ((0 = 0) /\ ((List.length g.1 + List.length g.2 = List.length g.1 + i) /\ ((Eq (α := List Value) (gC enF g.2) (gC enF g.2)) /\
  ((Plain (gC enF g.2)) /\ ((Eq (α := List Value) (gC enF g.3) (gC enF g.3)) /\ ((Plain (gC enF g.3)) /\ ((Eq (α := List Value) (gC enR (g.1 ++ List.map toR (List.take
  (List.length g.2) g.2))) (gC enR (g.1 ++ List.map toR (List.take i g.2)))) /\ ((Plain (gC enR (g.1 ++ List.map toR (List.take (List.length g.2) g.2)))) /\ True)))))))))))) := by kernel_rfl
theorem Re_vc (r : Ru) (y : TkY) (X F : List Fl) (n : Nat) (v : ByteArray) (R : List Rw) : mcall EtRe mRe 60 7 [.agg ⟨ruC r 0 X.length⟩, .agg ⟨tkCy y 1 F.length⟩] ⟨mkR (nums 0 [gRo enF X, gRo enF F]), 2⟩ (retIs 2 (.tuple #[.slice (some ⟨2, 0, none⟩) n 3, .string v]) [gRo enF X, gRo enF F, gOwn enR R]) =
  ((Value.int IntKind.i64 r.1 = Value.int IntKind.i64 r.1) /\ ((Value.string (bs r.4) = Value.string (bs r.4)) /\ (((((True /\ (True /\ (True /\ ((0 + List.length F * 2 <=
  List.length (gC enF F) /\ Plain (List.take (List.length F * 2) (List.drop 0 (gC enF F)))) /\ (True /\ (True /\ (True /\ (True /\ (True /\ True))))))))) /\ (True /\ True))
  /\ ((True /\ True) /\ (True /\ (IsF (Row.mk (List.take (List.length F * 2) (List.drop 0 (gC enF F))) true (Ob.cells true)) (List.length F) /\ List.length F <=
  9223372036854775807))))) /\ (br (fsB (Row.mk (List.take (List.length F * 2) (List.drop 0 (gC enF F))) true (Ob.cells true)) (ByteArray.mk #[105, 102, 45, 110, 111, 110,
  101, 45, 109, 97, 116, 99, 104])) (br (!strEq (bs r.3) (ByteArray.mk #[])) (br (strEq (fsV (Row.mk (List.take (List.length F * 2) (List.drop 0 (gC enF F))) true (Ob.cells
  true)) (ByteArray.mk #[105, 102, 45, 110, 111, 110, 101, 45, 109, 97, 116, 99, 104])) (bs r.3)) (((((True /\ (True /\ (True /\ ((0 + List.length F * 2 <= List.length (gC
  enF F) /\ Plain (List.take (List.length F * 2) (List.drop 0 (gC enF F)))) /\ (True /\ (True /\ (True /\ (True /\ (True /\ True))))))))) /\ (True /\ True)) /\ ((True /\
  True) /\ (True /\ (IsF (Row.mk (List.take (List.length F * 2) (List.drop 0 (gC enF F))) true (Ob.cells true)) (List.length F) /\ List.length F <= 9223372036854775807)))))
  /\ (br (strEq (fsV (Row.mk (List.take (List.length F * 2) (List.drop 0 (gC enF F))) true (Ob.cells true)) (ByteArray.mk #[58, 109, 101, 116, 104, 111, 100])) (ByteArray.mk
  #[72, 69, 65, 68])) ((((True /\ True) /\ (True /\ (True /\ I64 (304 : Int))))) /\ (br (!strEq (bs r.2) (ByteArray.mk #[])) (br (!strEq (bs r.3) (ByteArray.mk #[])) (∃ g :
  GRe, ((List.length g.1 <= 3 /\ List.length g.2 <= 1048576) /\ ((bs g.4 = ByteArray.mk #[]) /\ ((0 = 0) /\ ((List.length g.1 + 0 = 3) /\ ((0 = 0) /\ ((List.length g.2 =
  List.length X) /\ (((↑(List.length g.2) : Int) = Int.ofNat (List.length X)) /\ (((0 : Int) = (0 : Int)) /\ ((Eq (α := List Value) (gC enF g.2) (gC enF X)) /\ ((Plain (gC
  enF g.2)) /\ ((Eq (α := List Value) (gC enF g.3) (gC enF F)) /\ ((Plain (gC enF g.3)) /\ ((Eq (α := List Value) (gC enR (g.1 ++ [])) ([Value.string (ByteArray.mk #[58,
  115, 116, 97, 116, 117, 115]), Value.string (digZ (304 : Int)), Value.int IntKind.i64 (1 : Int), Value.string (ByteArray.mk #[99, 97, 99, 104, 101, 45, 99, 111, 110, 116,
  114, 111, 108]), Value.string (bs r.2), Value.int IntKind.i64 (1 : Int), Value.string (ByteArray.mk #[101, 116, 97, 103]), Value.string (bs r.3), Value.int IntKind.i64 (1
  : Int)])) /\ ((Plain (gC enR (g.1 ++ []))) /\ (∀ (y2 : Unit), ((True) → ((0 = 0) /\ ((n = List.length g.1 + List.length g.2) /\ ((v = bs g.4) /\ ((Eq (α := List Value) (gC
  enF X) (gC enF g.2)) /\ ((Plain (gC enF X)) /\ ((Eq (α := List Value) (gC enF F) (gC enF g.3)) /\ ((Plain (gC enF F)) /\ ((Eq (α := List Value) (gC enR R) (gC enR (g.1 ++
  List.map toR (List.take (List.length g.2) g.2)))) /\ ((Plain (gC enR R)) /\ True)))))))))))))))))))))))))) (∃ g : GRe, ((List.length g.1 <= 3 /\ List.length g.2 <=
  1048576) /\ ((bs g.4 = ByteArray.mk #[]) /\ ((0 = 0) /\ ((List.length g.1 + 0 = 2) /\ ((0 = 0) /\ ((List.length g.2 = List.length X) /\ (((↑(List.length g.2) : Int) =
  Int.ofNat (List.length X)) /\ (((0 : Int) = (0 : Int)) /\ ((Eq (α := List Value) (gC enF g.2) (gC enF X)) /\ ((Plain (gC enF g.2)) /\ ((Eq (α := List Value) (gC enF g.3)
  (gC enF F)) /\ ((Plain (gC enF g.3)) /\ ((Eq (α := List Value) (gC enR (g.1 ++ [])) ([Value.string (ByteArray.mk #[58, 115, 116, 97, 116, 117, 115]), Value.string (digZ
  (304 : Int)), Value.int IntKind.i64 (1 : Int), Value.string (ByteArray.mk #[99, 97, 99, 104, 101, 45, 99, 111, 110, 116, 114, 111, 108]), Value.string (bs r.2), Value.int
  IntKind.i64 (1 : Int)])) /\ ((Plain (gC enR (g.1 ++ []))) /\ (∀ (y2 : Unit), ((True) → ((0 = 0) /\ ((n = List.length g.1 + List.length g.2) /\ ((v = bs g.4) /\ ((Eq (α :=
  List Value) (gC enF X) (gC enF g.2)) /\ ((Plain (gC enF X)) /\ ((Eq (α := List Value) (gC enF F) (gC enF g.3)) /\ ((Plain (gC enF F)) /\ ((Eq (α := List Value) (gC enR R)
  (gC enR (g.1 ++ List.map toR (List.take (List.length g.2) g.2)))) /\ ((Plain (gC enR R)) /\ True))))))))))))))))))))))))))) (br (!strEq (bs r.3) (ByteArray.mk #[])) (∃ g :
  GRe, ((List.length g.1 <= 3 /\ List.length g.2 <= 1048576) /\ ((bs g.4 = ByteArray.mk #[]) /\ ((0 = 0) /\ ((List.length g.1 + 0 = 2) /\ ((0 = 0) /\ ((List.length g.2 =
  List.length X) /\ (((↑(List.length g.2) : Int) = Int.ofNat (List.length X)) /\ (((0 : Int) = (0 : Int)) /\ ((Eq (α := List Value) (gC enF g.2) (gC enF X)) /\ ((Plain (gC
  enF g.2)) /\ ((Eq (α := List Value) (gC enF g.3) (gC enF F)) /\ ((Plain (gC enF g.3)) /\ ((Eq (α := List Value) (gC enR (g.1 ++ [])) ([Value.string (ByteArray.mk #[58,
  115, 116, 97, 116, 117, 115]), Value.string (digZ (304 : Int)), Value.int IntKind.i64 (1 : Int), Value.string (ByteArray.mk #[101, 116, 97, 103]), Value.string (bs r.3),
  Value.int IntKind.i64 (1 : Int)])) /\ ((Plain (gC enR (g.1 ++ []))) /\ (∀ (y2 : Unit), ((True) → ((0 = 0) /\ ((n = List.length g.1 + List.length g.2) /\ ((v = bs g.4) /\
  ((Eq (α := List Value) (gC enF X) (gC enF g.2)) /\ ((Plain (gC enF X)) /\ ((Eq (α := List Value) (gC enF F) (gC enF g.3)) /\ ((Plain (gC enF F)) /\ ((Eq (α := List Value)
  (gC enR R) (gC enR (g.1 ++ List.map toR (List.take (List.length g.2) g.2)))) /\ ((Plain (gC enR R)) /\ True)))))))))))))))))))))))))) (∃ g : GRe, ((List.length g.1 <= 3 /\
  List.length g.2 <= 1048576) /\ ((bs g.4 = ByteArray.mk #[]) /\ ((0 = 0) /\ ((List.length g.1 + 0 = 1) /\ ((0 = 0) /\ ((List.length g.2 = List.length X) /\ (((↑(List.length
  g.2) : Int) = Int.ofNat (List.length X)) /\ (((0 : Int) = (0 : Int)) /\ ((Eq (α := List Value) (gC enF g.2) (gC enF X)) /\ ((Plain (gC enF g.2)) /\ ((Eq (α := List Value)
  (gC enF g.3) (gC enF F)) /\ ((Plain (gC enF g.3)) /\ ((Eq (α := List Value) (gC enR (g.1 ++ [])) ([Value.string (ByteArray.mk #[58, 115, 116, 97, 116, 117, 115]),
  Value.string (digZ (304 : Int)), Value.int IntKind.i64 (1 : Int)])) /\ ((Plain (gC enR (g.1 ++ []))) /\ (∀ (y2 : Unit), ((True) → ((0 = 0) /\ ((n = List.length g.1 +
  List.length g.2) /\ ((v = bs g.4) /\ ((Eq (α := List Value) (gC enF X) (gC enF g.2)) /\ ((Plain (gC enF X)) /\ ((Eq (α := List Value) (gC enF F) (gC enF g.3)) /\ ((Plain
  (gC enF F)) /\ ((Eq (α := List Value) (gC enR R) (gC enR (g.1 ++ List.map toR (List.take (List.length g.2) g.2)))) /\ ((Plain (gC enR R)) /\
  True))))))))))))))))))))))))))))) ((((True /\ True) /\ (True /\ (True /\ I64 (304 : Int))))) /\ (br (!strEq (bs r.2) (ByteArray.mk #[])) (br (!strEq (bs r.3) (ByteArray.mk
  #[])) (∃ g : GRe, ((List.length g.1 <= 3 /\ List.length g.2 <= 1048576) /\ ((bs g.4 = ByteArray.mk #[]) /\ ((0 = 0) /\ ((List.length g.1 + 0 = 3) /\ ((0 = 0) /\
  ((List.length g.2 = List.length X) /\ (((↑(List.length g.2) : Int) = Int.ofNat (List.length X)) /\ (((0 : Int) = (0 : Int)) /\ ((Eq (α := List Value) (gC enF g.2) (gC enF
  X)) /\ ((Plain (gC enF g.2)) /\ ((Eq (α := List Value) (gC enF g.3) (gC enF F)) /\ ((Plain (gC enF g.3)) /\ ((Eq (α := List Value) (gC enR (g.1 ++ [])) ([Value.string
  (ByteArray.mk #[58, 115, 116, 97, 116, 117, 115]), Value.string (digZ (304 : Int)), Value.int IntKind.i64 (1 : Int), Value.string (ByteArray.mk #[99, 97, 99, 104, 101, 45,
  99, 111, 110, 116, 114, 111, 108]), Value.string (bs r.2), Value.int IntKind.i64 (1 : Int), Value.string (ByteArray.mk #[101, 116, 97, 103]), Value.string (bs r.3),
  Value.int IntKind.i64 (1 : Int)])) /\ ((Plain (gC enR (g.1 ++ []))) /\ (∀ (y2 : Unit), ((True) → ((0 = 0) /\ ((n = List.length g.1 + List.length g.2) /\ ((v = bs g.4) /\
  ((Eq (α := List Value) (gC enF X) (gC enF g.2)) /\ ((Plain (gC enF X)) /\ ((Eq (α := List Value) (gC enF F) (gC enF g.3)) /\ ((Plain (gC enF F)) /\ ((Eq (α := List Value)
  (gC enR R) (gC enR (g.1 ++ List.map toR (List.take (List.length g.2) g.2)))) /\ ((Plain (gC enR R)) /\ True)))))))))))))))))))))))))) (∃ g : GRe, ((List.length g.1 <= 3 /\
  List.length g.2 <= 1048576) /\ ((bs g.4 = ByteArray.mk #[]) /\ ((0 = 0) /\ ((List.length g.1 + 0 = 2) /\ ((0 = 0) /\ ((List.length g.2 = List.length X) /\ (((↑(List.length
  g.2) : Int) = Int.ofNat (List.length X)) /\ (((0 : Int) = (0 : Int)) /\ ((Eq (α := List Value) (gC enF g.2) (gC enF X)) /\ ((Plain (gC enF g.2)) /\ ((Eq (α := List Value)
  (gC enF g.3) (gC enF F)) /\ ((Plain (gC enF g.3)) /\ ((Eq (α := List Value) (gC enR (g.1 ++ [])) ([Value.string (ByteArray.mk #[58, 115, 116, 97, 116, 117, 115]),
  Value.string (digZ (304 : Int)), Value.int IntKind.i64 (1 : Int), Value.string (ByteArray.mk #[99, 97, 99, 104, 101, 45, 99, 111, 110, 116, 114, 111, 108]), Value.string
  (bs r.2), Value.int IntKind.i64 (1 : Int)])) /\ ((Plain (gC enR (g.1 ++ []))) /\ (∀ (y2 : Unit), ((True) → ((0 = 0) /\ ((n = List.length g.1 + List.length g.2) /\ ((v = bs
  g.4) /\ ((Eq (α := List Value) (gC enF X) (gC enF g.2)) /\ ((Plain (gC enF X)) /\ ((Eq (α := List Value) (gC enF F) (gC enF g.3)) /\ ((Plain (gC enF F)) /\ ((Eq (α := List
  Value) (gC enR R) (gC enR (g.1 ++ List.map toR (List.take (List.length g.2) g.2)))) /\ ((Plain (gC enR R)) /\ True))))))))))))))))))))))))))) (br (!strEq (bs r.3)
  (ByteArray.mk #[])) (∃ g : GRe, ((List.length g.1 <= 3 /\ List.length g.2 <= 1048576) /\ ((bs g.4 = ByteArray.mk #[]) /\ ((0 = 0) /\ ((List.length g.1 + 0 = 2) /\ ((0 = 0)
  /\ ((List.length g.2 = List.length X) /\ (((↑(List.length g.2) : Int) = Int.ofNat (List.length X)) /\ (((0 : Int) = (0 : Int)) /\ ((Eq (α := List Value) (gC enF g.2) (gC
  enF X)) /\ ((Plain (gC enF g.2)) /\ ((Eq (α := List Value) (gC enF g.3) (gC enF F)) /\ ((Plain (gC enF g.3)) /\ ((Eq (α := List Value) (gC enR (g.1 ++ [])) ([Value.string
  (ByteArray.mk #[58, 115, 116, 97, 116, 117, 115]), Value.string (digZ (304 : Int)), Value.int IntKind.i64 (1 : Int), Value.string (ByteArray.mk #[101, 116, 97, 103]),
  Value.string (bs r.3), Value.int IntKind.i64 (1 : Int)])) /\ ((Plain (gC enR (g.1 ++ []))) /\ (∀ (y2 : Unit), ((True) → ((0 = 0) /\ ((n = List.length g.1 + List.length
  g.2) /\ ((v = bs g.4) /\ ((Eq (α := List Value) (gC enF X) (gC enF g.2)) /\ ((Plain (gC enF X)) /\ ((Eq (α := List Value) (gC enF F) (gC enF g.3)) /\ ((Plain (gC enF F))
  /\ ((Eq (α := List Value) (gC enR R) (gC enR (g.1 ++ List.map toR (List.take (List.length g.2) g.2)))) /\ ((Plain (gC enR R)) /\ True)))))))))))))))))))))))))) (∃ g : GRe,
  ((List.length g.1 <= 3 /\ List.length g.2 <= 1048576) /\ ((bs g.4 = ByteArray.mk #[]) /\ ((0 = 0) /\ ((List.length g.1 + 0 = 1) /\ ((0 = 0) /\ ((List.length g.2 =
  List.length X) /\ (((↑(List.length g.2) : Int) = Int.ofNat (List.length X)) /\ (((0 : Int) = (0 : Int)) /\ ((Eq (α := List Value) (gC enF g.2) (gC enF X)) /\ ((Plain (gC
  enF g.2)) /\ ((Eq (α := List Value) (gC enF g.3) (gC enF F)) /\ ((Plain (gC enF g.3)) /\ ((Eq (α := List Value) (gC enR (g.1 ++ [])) ([Value.string (ByteArray.mk #[58,
  115, 116, 97, 116, 117, 115]), Value.string (digZ (304 : Int)), Value.int IntKind.i64 (1 : Int)])) /\ ((Plain (gC enR (g.1 ++ []))) /\ (∀ (y2 : Unit), ((True) → ((0 = 0)
  /\ ((n = List.length g.1 + List.length g.2) /\ ((v = bs g.4) /\ ((Eq (α := List Value) (gC enF X) (gC enF g.2)) /\ ((Plain (gC enF X)) /\ ((Eq (α := List Value) (gC enF F)
  (gC enF g.3)) /\ ((Plain (gC enF F)) /\ ((Eq (α := List Value) (gC enR R) (gC enR (g.1 ++ List.map toR (List.take (List.length g.2) g.2)))) /\ ((Plain (gC enR R)) /\
  True))))))))))))))))))))))))))))))) (((((True /\ (True /\ (True /\ ((0 + List.length F * 2 <= List.length (gC enF F) /\ Plain (List.take (List.length F * 2) (List.drop 0
  (gC enF F)))) /\ (True /\ (True /\ (True /\ (True /\ (True /\ True))))))))) /\ (True /\ True)) /\ ((True /\ True) /\ (True /\ (IsF (Row.mk (List.take (List.length F * 2)
  (List.drop 0 (gC enF F))) true (Ob.cells true)) (List.length F) /\ List.length F <= 9223372036854775807))))) /\ (br (strEq (fsV (Row.mk (List.take (List.length F * 2)
  (List.drop 0 (gC enF F))) true (Ob.cells true)) (ByteArray.mk #[58, 109, 101, 116, 104, 111, 100])) (ByteArray.mk #[72, 69, 65, 68])) ((((True /\ True) /\ (True /\ (True
  /\ I64 r.1)))) /\ (br (!strEq (bs r.2) (ByteArray.mk #[])) (br (!strEq (bs r.3) (ByteArray.mk #[])) (∃ g : GRe, ((List.length g.1 <= 3 /\ List.length g.2 <= 1048576) /\
  ((bs g.4 = ByteArray.mk #[]) /\ ((0 = 0) /\ ((List.length g.1 + 0 = 3) /\ ((0 = 0) /\ ((List.length g.2 = List.length X) /\ (((↑(List.length g.2) : Int) = Int.ofNat
  (List.length X)) /\ (((0 : Int) = (0 : Int)) /\ ((Eq (α := List Value) (gC enF g.2) (gC enF X)) /\ ((Plain (gC enF g.2)) /\ ((Eq (α := List Value) (gC enF g.3) (gC enF F))
  /\ ((Plain (gC enF g.3)) /\ ((Eq (α := List Value) (gC enR (g.1 ++ [])) ([Value.string (ByteArray.mk #[58, 115, 116, 97, 116, 117, 115]), Value.string (digZ r.1),
  Value.int IntKind.i64 (1 : Int), Value.string (ByteArray.mk #[99, 97, 99, 104, 101, 45, 99, 111, 110, 116, 114, 111, 108]), Value.string (bs r.2), Value.int IntKind.i64 (1
  : Int), Value.string (ByteArray.mk #[101, 116, 97, 103]), Value.string (bs r.3), Value.int IntKind.i64 (1 : Int)])) /\ ((Plain (gC enR (g.1 ++ []))) /\ (∀ (y2 : Unit),
  ((True) → ((0 = 0) /\ ((n = List.length g.1 + List.length g.2) /\ ((v = bs g.4) /\ ((Eq (α := List Value) (gC enF X) (gC enF g.2)) /\ ((Plain (gC enF X)) /\ ((Eq (α :=
  List Value) (gC enF F) (gC enF g.3)) /\ ((Plain (gC enF F)) /\ ((Eq (α := List Value) (gC enR R) (gC enR (g.1 ++ List.map toR (List.take (List.length g.2) g.2)))) /\
  ((Plain (gC enR R)) /\ True)))))))))))))))))))))))))) (∃ g : GRe, ((List.length g.1 <= 3 /\ List.length g.2 <= 1048576) /\ ((bs g.4 = ByteArray.mk #[]) /\ ((0 = 0) /\
  ((List.length g.1 + 0 = 2) /\ ((0 = 0) /\ ((List.length g.2 = List.length X) /\ (((↑(List.length g.2) : Int) = Int.ofNat (List.length X)) /\ (((0 : Int) = (0 : Int)) /\
  ((Eq (α := List Value) (gC enF g.2) (gC enF X)) /\ ((Plain (gC enF g.2)) /\ ((Eq (α := List Value) (gC enF g.3) (gC enF F)) /\ ((Plain (gC enF g.3)) /\ ((Eq (α := List
  Value) (gC enR (g.1 ++ [])) ([Value.string (ByteArray.mk #[58, 115, 116, 97, 116, 117, 115]), Value.string (digZ r.1), Value.int IntKind.i64 (1 : Int), Value.string
  (ByteArray.mk #[99, 97, 99, 104, 101, 45, 99, 111, 110, 116, 114, 111, 108]), Value.string (bs r.2), Value.int IntKind.i64 (1 : Int)])) /\ ((Plain (gC enR (g.1 ++ []))) /\
  (∀ (y2 : Unit), ((True) → ((0 = 0) /\ ((n = List.length g.1 + List.length g.2) /\ ((v = bs g.4) /\ ((Eq (α := List Value) (gC enF X) (gC enF g.2)) /\ ((Plain (gC enF X))
  /\ ((Eq (α := List Value) (gC enF F) (gC enF g.3)) /\ ((Plain (gC enF F)) /\ ((Eq (α := List Value) (gC enR R) (gC enR (g.1 ++ List.map toR (List.take (List.length g.2)
  g.2)))) /\ ((Plain (gC enR R)) /\ True))))))))))))))))))))))))))) (br (!strEq (bs r.3) (ByteArray.mk #[])) (∃ g : GRe, ((List.length g.1 <= 3 /\ List.length g.2 <=
  1048576) /\ ((bs g.4 = ByteArray.mk #[]) /\ ((0 = 0) /\ ((List.length g.1 + 0 = 2) /\ ((0 = 0) /\ ((List.length g.2 = List.length X) /\ (((↑(List.length g.2) : Int) =
  Int.ofNat (List.length X)) /\ (((0 : Int) = (0 : Int)) /\ ((Eq (α := List Value) (gC enF g.2) (gC enF X)) /\ ((Plain (gC enF g.2)) /\ ((Eq (α := List Value) (gC enF g.3)
  (gC enF F)) /\ ((Plain (gC enF g.3)) /\ ((Eq (α := List Value) (gC enR (g.1 ++ [])) ([Value.string (ByteArray.mk #[58, 115, 116, 97, 116, 117, 115]), Value.string (digZ
  r.1), Value.int IntKind.i64 (1 : Int), Value.string (ByteArray.mk #[101, 116, 97, 103]), Value.string (bs r.3), Value.int IntKind.i64 (1 : Int)])) /\ ((Plain (gC enR (g.1
  ++ []))) /\ (∀ (y2 : Unit), ((True) → ((0 = 0) /\ ((n = List.length g.1 + List.length g.2) /\ ((v = bs g.4) /\ ((Eq (α := List Value) (gC enF X) (gC enF g.2)) /\ ((Plain
  (gC enF X)) /\ ((Eq (α := List Value) (gC enF F) (gC enF g.3)) /\ ((Plain (gC enF F)) /\ ((Eq (α := List Value) (gC enR R) (gC enR (g.1 ++ List.map toR (List.take
  (List.length g.2) g.2)))) /\ ((Plain (gC enR R)) /\ True)))))))))))))))))))))))))) (∃ g : GRe, ((List.length g.1 <= 3 /\ List.length g.2 <= 1048576) /\ ((bs g.4 =
  ByteArray.mk #[]) /\ ((0 = 0) /\ ((List.length g.1 + 0 = 1) /\ ((0 = 0) /\ ((List.length g.2 = List.length X) /\ (((↑(List.length g.2) : Int) = Int.ofNat (List.length X))
  /\ (((0 : Int) = (0 : Int)) /\ ((Eq (α := List Value) (gC enF g.2) (gC enF X)) /\ ((Plain (gC enF g.2)) /\ ((Eq (α := List Value) (gC enF g.3) (gC enF F)) /\ ((Plain (gC
  enF g.3)) /\ ((Eq (α := List Value) (gC enR (g.1 ++ [])) ([Value.string (ByteArray.mk #[58, 115, 116, 97, 116, 117, 115]), Value.string (digZ r.1), Value.int IntKind.i64
  (1 : Int)])) /\ ((Plain (gC enR (g.1 ++ []))) /\ (∀ (y2 : Unit), ((True) → ((0 = 0) /\ ((n = List.length g.1 + List.length g.2) /\ ((v = bs g.4) /\ ((Eq (α := List Value)
  (gC enF X) (gC enF g.2)) /\ ((Plain (gC enF X)) /\ ((Eq (α := List Value) (gC enF F) (gC enF g.3)) /\ ((Plain (gC enF F)) /\ ((Eq (α := List Value) (gC enR R) (gC enR (g.1
  ++ List.map toR (List.take (List.length g.2) g.2)))) /\ ((Plain (gC enR R)) /\ True))))))))))))))))))))))))))))) (br (r.1 == (204 : Int)) ((((True /\ True) /\ (True /\
  (True /\ I64 r.1)))) /\ (br (!strEq (bs r.2) (ByteArray.mk #[])) (br (!strEq (bs r.3) (ByteArray.mk #[])) (∃ g : GRe, ((List.length g.1 <= 3 /\ List.length g.2 <= 1048576)
  /\ ((bs g.4 = ByteArray.mk #[]) /\ ((0 = 0) /\ ((List.length g.1 + 0 = 3) /\ ((0 = 0) /\ ((List.length g.2 = List.length X) /\ (((↑(List.length g.2) : Int) = Int.ofNat
  (List.length X)) /\ (((0 : Int) = (0 : Int)) /\ ((Eq (α := List Value) (gC enF g.2) (gC enF X)) /\ ((Plain (gC enF g.2)) /\ ((Eq (α := List Value) (gC enF g.3) (gC enF F))
  /\ ((Plain (gC enF g.3)) /\ ((Eq (α := List Value) (gC enR (g.1 ++ [])) ([Value.string (ByteArray.mk #[58, 115, 116, 97, 116, 117, 115]), Value.string (digZ r.1),
  Value.int IntKind.i64 (1 : Int), Value.string (ByteArray.mk #[99, 97, 99, 104, 101, 45, 99, 111, 110, 116, 114, 111, 108]), Value.string (bs r.2), Value.int IntKind.i64 (1
  : Int), Value.string (ByteArray.mk #[101, 116, 97, 103]), Value.string (bs r.3), Value.int IntKind.i64 (1 : Int)])) /\ ((Plain (gC enR (g.1 ++ []))) /\ (∀ (y2 : Unit),
  ((True) → ((0 = 0) /\ ((n = List.length g.1 + List.length g.2) /\ ((v = bs g.4) /\ ((Eq (α := List Value) (gC enF X) (gC enF g.2)) /\ ((Plain (gC enF X)) /\ ((Eq (α :=
  List Value) (gC enF F) (gC enF g.3)) /\ ((Plain (gC enF F)) /\ ((Eq (α := List Value) (gC enR R) (gC enR (g.1 ++ List.map toR (List.take (List.length g.2) g.2)))) /\
  ((Plain (gC enR R)) /\ True)))))))))))))))))))))))))) (∃ g : GRe, ((List.length g.1 <= 3 /\ List.length g.2 <= 1048576) /\ ((bs g.4 = ByteArray.mk #[]) /\ ((0 = 0) /\
  ((List.length g.1 + 0 = 2) /\ ((0 = 0) /\ ((List.length g.2 = List.length X) /\ (((↑(List.length g.2) : Int) = Int.ofNat (List.length X)) /\ (((0 : Int) = (0 : Int)) /\
  ((Eq (α := List Value) (gC enF g.2) (gC enF X)) /\ ((Plain (gC enF g.2)) /\ ((Eq (α := List Value) (gC enF g.3) (gC enF F)) /\ ((Plain (gC enF g.3)) /\ ((Eq (α := List
  Value) (gC enR (g.1 ++ [])) ([Value.string (ByteArray.mk #[58, 115, 116, 97, 116, 117, 115]), Value.string (digZ r.1), Value.int IntKind.i64 (1 : Int), Value.string
  (ByteArray.mk #[99, 97, 99, 104, 101, 45, 99, 111, 110, 116, 114, 111, 108]), Value.string (bs r.2), Value.int IntKind.i64 (1 : Int)])) /\ ((Plain (gC enR (g.1 ++ []))) /\
  (∀ (y2 : Unit), ((True) → ((0 = 0) /\ ((n = List.length g.1 + List.length g.2) /\ ((v = bs g.4) /\ ((Eq (α := List Value) (gC enF X) (gC enF g.2)) /\ ((Plain (gC enF X))
  /\ ((Eq (α := List Value) (gC enF F) (gC enF g.3)) /\ ((Plain (gC enF F)) /\ ((Eq (α := List Value) (gC enR R) (gC enR (g.1 ++ List.map toR (List.take (List.length g.2)
  g.2)))) /\ ((Plain (gC enR R)) /\ True))))))))))))))))))))))))))) (br (!strEq (bs r.3) (ByteArray.mk #[])) (∃ g : GRe, ((List.length g.1 <= 3 /\ List.length g.2 <=
  1048576) /\ ((bs g.4 = ByteArray.mk #[]) /\ ((0 = 0) /\ ((List.length g.1 + 0 = 2) /\ ((0 = 0) /\ ((List.length g.2 = List.length X) /\ (((↑(List.length g.2) : Int) =
  Int.ofNat (List.length X)) /\ (((0 : Int) = (0 : Int)) /\ ((Eq (α := List Value) (gC enF g.2) (gC enF X)) /\ ((Plain (gC enF g.2)) /\ ((Eq (α := List Value) (gC enF g.3)
  (gC enF F)) /\ ((Plain (gC enF g.3)) /\ ((Eq (α := List Value) (gC enR (g.1 ++ [])) ([Value.string (ByteArray.mk #[58, 115, 116, 97, 116, 117, 115]), Value.string (digZ
  r.1), Value.int IntKind.i64 (1 : Int), Value.string (ByteArray.mk #[101, 116, 97, 103]), Value.string (bs r.3), Value.int IntKind.i64 (1 : Int)])) /\ ((Plain (gC enR (g.1
  ++ []))) /\ (∀ (y2 : Unit), ((True) → ((0 = 0) /\ ((n = List.length g.1 + List.length g.2) /\ ((v = bs g.4) /\ ((Eq (α := List Value) (gC enF X) (gC enF g.2)) /\ ((Plain
  (gC enF X)) /\ ((Eq (α := List Value) (gC enF F) (gC enF g.3)) /\ ((Plain (gC enF F)) /\ ((Eq (α := List Value) (gC enR R) (gC enR (g.1 ++ List.map toR (List.take
  (List.length g.2) g.2)))) /\ ((Plain (gC enR R)) /\ True)))))))))))))))))))))))))) (∃ g : GRe, ((List.length g.1 <= 3 /\ List.length g.2 <= 1048576) /\ ((bs g.4 =
  ByteArray.mk #[]) /\ ((0 = 0) /\ ((List.length g.1 + 0 = 1) /\ ((0 = 0) /\ ((List.length g.2 = List.length X) /\ (((↑(List.length g.2) : Int) = Int.ofNat (List.length X))
  /\ (((0 : Int) = (0 : Int)) /\ ((Eq (α := List Value) (gC enF g.2) (gC enF X)) /\ ((Plain (gC enF g.2)) /\ ((Eq (α := List Value) (gC enF g.3) (gC enF F)) /\ ((Plain (gC
  enF g.3)) /\ ((Eq (α := List Value) (gC enR (g.1 ++ [])) ([Value.string (ByteArray.mk #[58, 115, 116, 97, 116, 117, 115]), Value.string (digZ r.1), Value.int IntKind.i64
  (1 : Int)])) /\ ((Plain (gC enR (g.1 ++ []))) /\ (∀ (y2 : Unit), ((True) → ((0 = 0) /\ ((n = List.length g.1 + List.length g.2) /\ ((v = bs g.4) /\ ((Eq (α := List Value)
  (gC enF X) (gC enF g.2)) /\ ((Plain (gC enF X)) /\ ((Eq (α := List Value) (gC enF F) (gC enF g.3)) /\ ((Plain (gC enF F)) /\ ((Eq (α := List Value) (gC enR R) (gC enR (g.1
  ++ List.map toR (List.take (List.length g.2) g.2)))) /\ ((Plain (gC enR R)) /\ True))))))))))))))))))))))))))))) ((((True /\ True) /\ (True /\ (True /\ I64 r.1)))) /\ (br
  (!strEq (bs r.2) (ByteArray.mk #[])) (br (!strEq (bs r.3) (ByteArray.mk #[])) (∃ g : GRe, ((List.length g.1 <= 3 /\ List.length g.2 <= 1048576) /\ ((bs g.4 = bs r.4) /\
  ((0 = 0) /\ ((List.length g.1 + 0 = 3) /\ ((0 = 0) /\ ((List.length g.2 = List.length X) /\ (((↑(List.length g.2) : Int) = Int.ofNat (List.length X)) /\ (((0 : Int) = (0 :
  Int)) /\ ((Eq (α := List Value) (gC enF g.2) (gC enF X)) /\ ((Plain (gC enF g.2)) /\ ((Eq (α := List Value) (gC enF g.3) (gC enF F)) /\ ((Plain (gC enF g.3)) /\ ((Eq (α :=
  List Value) (gC enR (g.1 ++ [])) ([Value.string (ByteArray.mk #[58, 115, 116, 97, 116, 117, 115]), Value.string (digZ r.1), Value.int IntKind.i64 (1 : Int), Value.string
  (ByteArray.mk #[99, 97, 99, 104, 101, 45, 99, 111, 110, 116, 114, 111, 108]), Value.string (bs r.2), Value.int IntKind.i64 (1 : Int), Value.string (ByteArray.mk #[101,
  116, 97, 103]), Value.string (bs r.3), Value.int IntKind.i64 (1 : Int)])) /\ ((Plain (gC enR (g.1 ++ []))) /\ (∀ (y2 : Unit), ((True) → ((0 = 0) /\ ((n = List.length g.1 +
  List.length g.2) /\ ((v = bs g.4) /\ ((Eq (α := List Value) (gC enF X) (gC enF g.2)) /\ ((Plain (gC enF X)) /\ ((Eq (α := List Value) (gC enF F) (gC enF g.3)) /\ ((Plain
  (gC enF F)) /\ ((Eq (α := List Value) (gC enR R) (gC enR (g.1 ++ List.map toR (List.take (List.length g.2) g.2)))) /\ ((Plain (gC enR R)) /\ True))))))))))))))))))))))))))
  (∃ g : GRe, ((List.length g.1 <= 3 /\ List.length g.2 <= 1048576) /\ ((bs g.4 = bs r.4) /\ ((0 = 0) /\ ((List.length g.1 + 0 = 2) /\ ((0 = 0) /\ ((List.length g.2 =
  List.length X) /\ (((↑(List.length g.2) : Int) = Int.ofNat (List.length X)) /\ (((0 : Int) = (0 : Int)) /\ ((Eq (α := List Value) (gC enF g.2) (gC enF X)) /\ ((Plain (gC
  enF g.2)) /\ ((Eq (α := List Value) (gC enF g.3) (gC enF F)) /\ ((Plain (gC enF g.3)) /\ ((Eq (α := List Value) (gC enR (g.1 ++ [])) ([Value.string (ByteArray.mk #[58,
  115, 116, 97, 116, 117, 115]), Value.string (digZ r.1), Value.int IntKind.i64 (1 : Int), Value.string (ByteArray.mk #[99, 97, 99, 104, 101, 45, 99, 111, 110, 116, 114,
  111, 108]), Value.string (bs r.2), Value.int IntKind.i64 (1 : Int)])) /\ ((Plain (gC enR (g.1 ++ []))) /\ (∀ (y2 : Unit), ((True) → ((0 = 0) /\ ((n = List.length g.1 +
  List.length g.2) /\ ((v = bs g.4) /\ ((Eq (α := List Value) (gC enF X) (gC enF g.2)) /\ ((Plain (gC enF X)) /\ ((Eq (α := List Value) (gC enF F) (gC enF g.3)) /\ ((Plain
  (gC enF F)) /\ ((Eq (α := List Value) (gC enR R) (gC enR (g.1 ++ List.map toR (List.take (List.length g.2) g.2)))) /\ ((Plain (gC enR R)) /\
  True))))))))))))))))))))))))))) (br (!strEq (bs r.3) (ByteArray.mk #[])) (∃ g : GRe, ((List.length g.1 <= 3 /\ List.length g.2 <= 1048576) /\ ((bs g.4 = bs r.4) /\ ((0 =
  0) /\ ((List.length g.1 + 0 = 2) /\ ((0 = 0) /\ ((List.length g.2 = List.length X) /\ (((↑(List.length g.2) : Int) = Int.ofNat (List.length X)) /\ (((0 : Int) = (0 : Int))
  /\ ((Eq (α := List Value) (gC enF g.2) (gC enF X)) /\ ((Plain (gC enF g.2)) /\ ((Eq (α := List Value) (gC enF g.3) (gC enF F)) /\ ((Plain (gC enF g.3)) /\ ((Eq (α := List
  Value) (gC enR (g.1 ++ [])) ([Value.string (ByteArray.mk #[58, 115, 116, 97, 116, 117, 115]), Value.string (digZ r.1), Value.int IntKind.i64 (1 : Int), Value.string
  (ByteArray.mk #[101, 116, 97, 103]), Value.string (bs r.3), Value.int IntKind.i64 (1 : Int)])) /\ ((Plain (gC enR (g.1 ++ []))) /\ (∀ (y2 : Unit), ((True) → ((0 = 0) /\
  ((n = List.length g.1 + List.length g.2) /\ ((v = bs g.4) /\ ((Eq (α := List Value) (gC enF X) (gC enF g.2)) /\ ((Plain (gC enF X)) /\ ((Eq (α := List Value) (gC enF F)
  (gC enF g.3)) /\ ((Plain (gC enF F)) /\ ((Eq (α := List Value) (gC enR R) (gC enR (g.1 ++ List.map toR (List.take (List.length g.2) g.2)))) /\ ((Plain (gC enR R)) /\
  True)))))))))))))))))))))))))) (∃ g : GRe, ((List.length g.1 <= 3 /\ List.length g.2 <= 1048576) /\ ((bs g.4 = bs r.4) /\ ((0 = 0) /\ ((List.length g.1 + 0 = 1) /\ ((0 =
  0) /\ ((List.length g.2 = List.length X) /\ (((↑(List.length g.2) : Int) = Int.ofNat (List.length X)) /\ (((0 : Int) = (0 : Int)) /\ ((Eq (α := List Value) (gC enF g.2)
  (gC enF X)) /\ ((Plain (gC enF g.2)) /\ ((Eq (α := List Value) (gC enF g.3) (gC enF F)) /\ ((Plain (gC enF g.3)) /\ ((Eq (α := List Value) (gC enR (g.1 ++ []))
  ([Value.string (ByteArray.mk #[58, 115, 116, 97, 116, 117, 115]), Value.string (digZ r.1), Value.int IntKind.i64 (1 : Int)])) /\ ((Plain (gC enR (g.1 ++ []))) /\ (∀ (y2 :
  Unit), ((True) → ((0 = 0) /\ ((n = List.length g.1 + List.length g.2) /\ ((v = bs g.4) /\ ((Eq (α := List Value) (gC enF X) (gC enF g.2)) /\ ((Plain (gC enF X)) /\ ((Eq (α
  := List Value) (gC enF F) (gC enF g.3)) /\ ((Plain (gC enF F)) /\ ((Eq (α := List Value) (gC enR R) (gC enR (g.1 ++ List.map toR (List.take (List.length g.2) g.2)))) /\
  ((Plain (gC enR R)) /\ True))))))))))))))))))))))))))))))))) (((((True /\ (True /\ (True /\ ((0 + List.length F * 2 <= List.length (gC enF F) /\ Plain (List.take
  (List.length F * 2) (List.drop 0 (gC enF F)))) /\ (True /\ (True /\ (True /\ (True /\ (True /\ True))))))))) /\ (True /\ True)) /\ ((True /\ True) /\ (True /\ (IsF (Row.mk
  (List.take (List.length F * 2) (List.drop 0 (gC enF F))) true (Ob.cells true)) (List.length F) /\ List.length F <= 9223372036854775807))))) /\ (br (strEq (fsV (Row.mk
  (List.take (List.length F * 2) (List.drop 0 (gC enF F))) true (Ob.cells true)) (ByteArray.mk #[58, 109, 101, 116, 104, 111, 100])) (ByteArray.mk #[72, 69, 65, 68]))
  ((((True /\ True) /\ (True /\ (True /\ I64 r.1)))) /\ (br (!strEq (bs r.2) (ByteArray.mk #[])) (br (!strEq (bs r.3) (ByteArray.mk #[])) (∃ g : GRe, ((List.length g.1 <= 3
  /\ List.length g.2 <= 1048576) /\ ((bs g.4 = ByteArray.mk #[]) /\ ((0 = 0) /\ ((List.length g.1 + 0 = 3) /\ ((0 = 0) /\ ((List.length g.2 = List.length X) /\
  (((↑(List.length g.2) : Int) = Int.ofNat (List.length X)) /\ (((0 : Int) = (0 : Int)) /\ ((Eq (α := List Value) (gC enF g.2) (gC enF X)) /\ ((Plain (gC enF g.2)) /\ ((Eq
  (α := List Value) (gC enF g.3) (gC enF F)) /\ ((Plain (gC enF g.3)) /\ ((Eq (α := List Value) (gC enR (g.1 ++ [])) ([Value.string (ByteArray.mk #[58, 115, 116, 97, 116,
  117, 115]), Value.string (digZ r.1), Value.int IntKind.i64 (1 : Int), Value.string (ByteArray.mk #[99, 97, 99, 104, 101, 45, 99, 111, 110, 116, 114, 111, 108]),
  Value.string (bs r.2), Value.int IntKind.i64 (1 : Int), Value.string (ByteArray.mk #[101, 116, 97, 103]), Value.string (bs r.3), Value.int IntKind.i64 (1 : Int)])) /\
  ((Plain (gC enR (g.1 ++ []))) /\ (∀ (y2 : Unit), ((True) → ((0 = 0) /\ ((n = List.length g.1 + List.length g.2) /\ ((v = bs g.4) /\ ((Eq (α := List Value) (gC enF X) (gC
  enF g.2)) /\ ((Plain (gC enF X)) /\ ((Eq (α := List Value) (gC enF F) (gC enF g.3)) /\ ((Plain (gC enF F)) /\ ((Eq (α := List Value) (gC enR R) (gC enR (g.1 ++ List.map
  toR (List.take (List.length g.2) g.2)))) /\ ((Plain (gC enR R)) /\ True)))))))))))))))))))))))))) (∃ g : GRe, ((List.length g.1 <= 3 /\ List.length g.2 <= 1048576) /\ ((bs
  g.4 = ByteArray.mk #[]) /\ ((0 = 0) /\ ((List.length g.1 + 0 = 2) /\ ((0 = 0) /\ ((List.length g.2 = List.length X) /\ (((↑(List.length g.2) : Int) = Int.ofNat
  (List.length X)) /\ (((0 : Int) = (0 : Int)) /\ ((Eq (α := List Value) (gC enF g.2) (gC enF X)) /\ ((Plain (gC enF g.2)) /\ ((Eq (α := List Value) (gC enF g.3) (gC enF F))
  /\ ((Plain (gC enF g.3)) /\ ((Eq (α := List Value) (gC enR (g.1 ++ [])) ([Value.string (ByteArray.mk #[58, 115, 116, 97, 116, 117, 115]), Value.string (digZ r.1),
  Value.int IntKind.i64 (1 : Int), Value.string (ByteArray.mk #[99, 97, 99, 104, 101, 45, 99, 111, 110, 116, 114, 111, 108]), Value.string (bs r.2), Value.int IntKind.i64 (1
  : Int)])) /\ ((Plain (gC enR (g.1 ++ []))) /\ (∀ (y2 : Unit), ((True) → ((0 = 0) /\ ((n = List.length g.1 + List.length g.2) /\ ((v = bs g.4) /\ ((Eq (α := List Value) (gC
  enF X) (gC enF g.2)) /\ ((Plain (gC enF X)) /\ ((Eq (α := List Value) (gC enF F) (gC enF g.3)) /\ ((Plain (gC enF F)) /\ ((Eq (α := List Value) (gC enR R) (gC enR (g.1 ++
  List.map toR (List.take (List.length g.2) g.2)))) /\ ((Plain (gC enR R)) /\ True))))))))))))))))))))))))))) (br (!strEq (bs r.3) (ByteArray.mk #[])) (∃ g : GRe,
  ((List.length g.1 <= 3 /\ List.length g.2 <= 1048576) /\ ((bs g.4 = ByteArray.mk #[]) /\ ((0 = 0) /\ ((List.length g.1 + 0 = 2) /\ ((0 = 0) /\ ((List.length g.2 =
  List.length X) /\ (((↑(List.length g.2) : Int) = Int.ofNat (List.length X)) /\ (((0 : Int) = (0 : Int)) /\ ((Eq (α := List Value) (gC enF g.2) (gC enF X)) /\ ((Plain (gC
  enF g.2)) /\ ((Eq (α := List Value) (gC enF g.3) (gC enF F)) /\ ((Plain (gC enF g.3)) /\ ((Eq (α := List Value) (gC enR (g.1 ++ [])) ([Value.string (ByteArray.mk #[58,
  115, 116, 97, 116, 117, 115]), Value.string (digZ r.1), Value.int IntKind.i64 (1 : Int), Value.string (ByteArray.mk #[101, 116, 97, 103]), Value.string (bs r.3), Value.int
  IntKind.i64 (1 : Int)])) /\ ((Plain (gC enR (g.1 ++ []))) /\ (∀ (y2 : Unit), ((True) → ((0 = 0) /\ ((n = List.length g.1 + List.length g.2) /\ ((v = bs g.4) /\ ((Eq (α :=
  List Value) (gC enF X) (gC enF g.2)) /\ ((Plain (gC enF X)) /\ ((Eq (α := List Value) (gC enF F) (gC enF g.3)) /\ ((Plain (gC enF F)) /\ ((Eq (α := List Value) (gC enR R)
  (gC enR (g.1 ++ List.map toR (List.take (List.length g.2) g.2)))) /\ ((Plain (gC enR R)) /\ True)))))))))))))))))))))))))) (∃ g : GRe, ((List.length g.1 <= 3 /\
  List.length g.2 <= 1048576) /\ ((bs g.4 = ByteArray.mk #[]) /\ ((0 = 0) /\ ((List.length g.1 + 0 = 1) /\ ((0 = 0) /\ ((List.length g.2 = List.length X) /\ (((↑(List.length
  g.2) : Int) = Int.ofNat (List.length X)) /\ (((0 : Int) = (0 : Int)) /\ ((Eq (α := List Value) (gC enF g.2) (gC enF X)) /\ ((Plain (gC enF g.2)) /\ ((Eq (α := List Value)
  (gC enF g.3) (gC enF F)) /\ ((Plain (gC enF g.3)) /\ ((Eq (α := List Value) (gC enR (g.1 ++ [])) ([Value.string (ByteArray.mk #[58, 115, 116, 97, 116, 117, 115]),
  Value.string (digZ r.1), Value.int IntKind.i64 (1 : Int)])) /\ ((Plain (gC enR (g.1 ++ []))) /\ (∀ (y2 : Unit), ((True) → ((0 = 0) /\ ((n = List.length g.1 + List.length
  g.2) /\ ((v = bs g.4) /\ ((Eq (α := List Value) (gC enF X) (gC enF g.2)) /\ ((Plain (gC enF X)) /\ ((Eq (α := List Value) (gC enF F) (gC enF g.3)) /\ ((Plain (gC enF F))
  /\ ((Eq (α := List Value) (gC enR R) (gC enR (g.1 ++ List.map toR (List.take (List.length g.2) g.2)))) /\ ((Plain (gC enR R)) /\ True))))))))))))))))))))))))))))) (br (r.1
  == (204 : Int)) ((((True /\ True) /\ (True /\ (True /\ I64 r.1)))) /\ (br (!strEq (bs r.2) (ByteArray.mk #[])) (br (!strEq (bs r.3) (ByteArray.mk #[])) (∃ g : GRe,
  ((List.length g.1 <= 3 /\ List.length g.2 <= 1048576) /\ ((bs g.4 = ByteArray.mk #[]) /\ ((0 = 0) /\ ((List.length g.1 + 0 = 3) /\ ((0 = 0) /\ ((List.length g.2 =
  List.length X) /\ (((↑(List.length g.2) : Int) = Int.ofNat (List.length X)) /\ (((0 : Int) = (0 : Int)) /\ ((Eq (α := List Value) (gC enF g.2) (gC enF X)) /\ ((Plain (gC
  enF g.2)) /\ ((Eq (α := List Value) (gC enF g.3) (gC enF F)) /\ ((Plain (gC enF g.3)) /\ ((Eq (α := List Value) (gC enR (g.1 ++ [])) ([Value.string (ByteArray.mk #[58,
  115, 116, 97, 116, 117, 115]), Value.string (digZ r.1), Value.int IntKind.i64 (1 : Int), Value.string (ByteArray.mk #[99, 97, 99, 104, 101, 45, 99, 111, 110, 116, 114,
  111, 108]), Value.string (bs r.2), Value.int IntKind.i64 (1 : Int), Value.string (ByteArray.mk #[101, 116, 97, 103]), Value.string (bs r.3), Value.int IntKind.i64 (1 :
  Int)])) /\ ((Plain (gC enR (g.1 ++ []))) /\ (∀ (y2 : Unit), ((True) → ((0 = 0) /\ ((n = List.length g.1 + List.length g.2) /\ ((v = bs g.4) /\ ((Eq (α := List Value) (gC
  enF X) (gC enF g.2)) /\ ((Plain (gC enF X)) /\ ((Eq (α := List Value) (gC enF F) (gC enF g.3)) /\ ((Plain (gC enF F)) /\ ((Eq (α := List Value) (gC enR R) (gC enR (g.1 ++
  List.map toR (List.take (List.length g.2) g.2)))) /\ ((Plain (gC enR R)) /\ True)))))))))))))))))))))))))) (∃ g : GRe, ((List.length g.1 <= 3 /\ List.length g.2 <=
  1048576) /\ ((bs g.4 = ByteArray.mk #[]) /\ ((0 = 0) /\ ((List.length g.1 + 0 = 2) /\ ((0 = 0) /\ ((List.length g.2 = List.length X) /\ (((↑(List.length g.2) : Int) =
  Int.ofNat (List.length X)) /\ (((0 : Int) = (0 : Int)) /\ ((Eq (α := List Value) (gC enF g.2) (gC enF X)) /\ ((Plain (gC enF g.2)) /\ ((Eq (α := List Value) (gC enF g.3)
  (gC enF F)) /\ ((Plain (gC enF g.3)) /\ ((Eq (α := List Value) (gC enR (g.1 ++ [])) ([Value.string (ByteArray.mk #[58, 115, 116, 97, 116, 117, 115]), Value.string (digZ
  r.1), Value.int IntKind.i64 (1 : Int), Value.string (ByteArray.mk #[99, 97, 99, 104, 101, 45, 99, 111, 110, 116, 114, 111, 108]), Value.string (bs r.2), Value.int
  IntKind.i64 (1 : Int)])) /\ ((Plain (gC enR (g.1 ++ []))) /\ (∀ (y2 : Unit), ((True) → ((0 = 0) /\ ((n = List.length g.1 + List.length g.2) /\ ((v = bs g.4) /\ ((Eq (α :=
  List Value) (gC enF X) (gC enF g.2)) /\ ((Plain (gC enF X)) /\ ((Eq (α := List Value) (gC enF F) (gC enF g.3)) /\ ((Plain (gC enF F)) /\ ((Eq (α := List Value) (gC enR R)
  (gC enR (g.1 ++ List.map toR (List.take (List.length g.2) g.2)))) /\ ((Plain (gC enR R)) /\ True))))))))))))))))))))))))))) (br (!strEq (bs r.3) (ByteArray.mk #[])) (∃ g :
  GRe, ((List.length g.1 <= 3 /\ List.length g.2 <= 1048576) /\ ((bs g.4 = ByteArray.mk #[]) /\ ((0 = 0) /\ ((List.length g.1 + 0 = 2) /\ ((0 = 0) /\ ((List.length g.2 =
  List.length X) /\ (((↑(List.length g.2) : Int) = Int.ofNat (List.length X)) /\ (((0 : Int) = (0 : Int)) /\ ((Eq (α := List Value) (gC enF g.2) (gC enF X)) /\ ((Plain (gC
  enF g.2)) /\ ((Eq (α := List Value) (gC enF g.3) (gC enF F)) /\ ((Plain (gC enF g.3)) /\ ((Eq (α := List Value) (gC enR (g.1 ++ [])) ([Value.string (ByteArray.mk #[58,
  115, 116, 97, 116, 117, 115]), Value.string (digZ r.1), Value.int IntKind.i64 (1 : Int), Value.string (ByteArray.mk #[101, 116, 97, 103]), Value.string (bs r.3), Value.int
  IntKind.i64 (1 : Int)])) /\ ((Plain (gC enR (g.1 ++ []))) /\ (∀ (y2 : Unit), ((True) → ((0 = 0) /\ ((n = List.length g.1 + List.length g.2) /\ ((v = bs g.4) /\ ((Eq (α :=
  List Value) (gC enF X) (gC enF g.2)) /\ ((Plain (gC enF X)) /\ ((Eq (α := List Value) (gC enF F) (gC enF g.3)) /\ ((Plain (gC enF F)) /\ ((Eq (α := List Value) (gC enR R)
  (gC enR (g.1 ++ List.map toR (List.take (List.length g.2) g.2)))) /\ ((Plain (gC enR R)) /\ True)))))))))))))))))))))))))) (∃ g : GRe, ((List.length g.1 <= 3 /\
  List.length g.2 <= 1048576) /\ ((bs g.4 = ByteArray.mk #[]) /\ ((0 = 0) /\ ((List.length g.1 + 0 = 1) /\ ((0 = 0) /\ ((List.length g.2 = List.length X) /\ (((↑(List.length
  g.2) : Int) = Int.ofNat (List.length X)) /\ (((0 : Int) = (0 : Int)) /\ ((Eq (α := List Value) (gC enF g.2) (gC enF X)) /\ ((Plain (gC enF g.2)) /\ ((Eq (α := List Value)
  (gC enF g.3) (gC enF F)) /\ ((Plain (gC enF g.3)) /\ ((Eq (α := List Value) (gC enR (g.1 ++ [])) ([Value.string (ByteArray.mk #[58, 115, 116, 97, 116, 117, 115]),
  Value.string (digZ r.1), Value.int IntKind.i64 (1 : Int)])) /\ ((Plain (gC enR (g.1 ++ []))) /\ (∀ (y2 : Unit), ((True) → ((0 = 0) /\ ((n = List.length g.1 + List.length
  g.2) /\ ((v = bs g.4) /\ ((Eq (α := List Value) (gC enF X) (gC enF g.2)) /\ ((Plain (gC enF X)) /\ ((Eq (α := List Value) (gC enF F) (gC enF g.3)) /\ ((Plain (gC enF F))
  /\ ((Eq (α := List Value) (gC enR R) (gC enR (g.1 ++ List.map toR (List.take (List.length g.2) g.2)))) /\ ((Plain (gC enR R)) /\ True))))))))))))))))))))))))))))) ((((True
  /\ True) /\ (True /\ (True /\ I64 r.1)))) /\ (br (!strEq (bs r.2) (ByteArray.mk #[])) (br (!strEq (bs r.3) (ByteArray.mk #[])) (∃ g : GRe, ((List.length g.1 <= 3 /\
  List.length g.2 <= 1048576) /\ ((bs g.4 = bs r.4) /\ ((0 = 0) /\ ((List.length g.1 + 0 = 3) /\ ((0 = 0) /\ ((List.length g.2 = List.length X) /\ (((↑(List.length g.2) :
  Int) = Int.ofNat (List.length X)) /\ (((0 : Int) = (0 : Int)) /\ ((Eq (α := List Value) (gC enF g.2) (gC enF X)) /\ ((Plain (gC enF g.2)) /\ ((Eq (α := List Value) (gC enF
  g.3) (gC enF F)) /\ ((Plain (gC enF g.3)) /\ ((Eq (α := List Value) (gC enR (g.1 ++ [])) ([Value.string (ByteArray.mk #[58, 115, 116, 97, 116, 117, 115]), Value.string
  (digZ r.1), Value.int IntKind.i64 (1 : Int), Value.string (ByteArray.mk #[99, 97, 99, 104, 101, 45, 99, 111, 110, 116, 114, 111, 108]), Value.string (bs r.2), Value.int
  IntKind.i64 (1 : Int), Value.string (ByteArray.mk #[101, 116, 97, 103]), Value.string (bs r.3), Value.int IntKind.i64 (1 : Int)])) /\ ((Plain (gC enR (g.1 ++ []))) /\ (∀
  (y2 : Unit), ((True) → ((0 = 0) /\ ((n = List.length g.1 + List.length g.2) /\ ((v = bs g.4) /\ ((Eq (α := List Value) (gC enF X) (gC enF g.2)) /\ ((Plain (gC enF X)) /\
  ((Eq (α := List Value) (gC enF F) (gC enF g.3)) /\ ((Plain (gC enF F)) /\ ((Eq (α := List Value) (gC enR R) (gC enR (g.1 ++ List.map toR (List.take (List.length g.2)
  g.2)))) /\ ((Plain (gC enR R)) /\ True)))))))))))))))))))))))))) (∃ g : GRe, ((List.length g.1 <= 3 /\ List.length g.2 <= 1048576) /\ ((bs g.4 = bs r.4) /\ ((0 = 0) /\
  ((List.length g.1 + 0 = 2) /\ ((0 = 0) /\ ((List.length g.2 = List.length X) /\ (((↑(List.length g.2) : Int) = Int.ofNat (List.length X)) /\ (((0 : Int) = (0 : Int)) /\
  ((Eq (α := List Value) (gC enF g.2) (gC enF X)) /\ ((Plain (gC enF g.2)) /\ ((Eq (α := List Value) (gC enF g.3) (gC enF F)) /\ ((Plain (gC enF g.3)) /\ ((Eq (α := List
  Value) (gC enR (g.1 ++ [])) ([Value.string (ByteArray.mk #[58, 115, 116, 97, 116, 117, 115]), Value.string (digZ r.1), Value.int IntKind.i64 (1 : Int), Value.string
  (ByteArray.mk #[99, 97, 99, 104, 101, 45, 99, 111, 110, 116, 114, 111, 108]), Value.string (bs r.2), Value.int IntKind.i64 (1 : Int)])) /\ ((Plain (gC enR (g.1 ++ []))) /\
  (∀ (y2 : Unit), ((True) → ((0 = 0) /\ ((n = List.length g.1 + List.length g.2) /\ ((v = bs g.4) /\ ((Eq (α := List Value) (gC enF X) (gC enF g.2)) /\ ((Plain (gC enF X))
  /\ ((Eq (α := List Value) (gC enF F) (gC enF g.3)) /\ ((Plain (gC enF F)) /\ ((Eq (α := List Value) (gC enR R) (gC enR (g.1 ++ List.map toR (List.take (List.length g.2)
  g.2)))) /\ ((Plain (gC enR R)) /\ True))))))))))))))))))))))))))) (br (!strEq (bs r.3) (ByteArray.mk #[])) (∃ g : GRe, ((List.length g.1 <= 3 /\ List.length g.2 <=
  1048576) /\ ((bs g.4 = bs r.4) /\ ((0 = 0) /\ ((List.length g.1 + 0 = 2) /\ ((0 = 0) /\ ((List.length g.2 = List.length X) /\ (((↑(List.length g.2) : Int) = Int.ofNat
  (List.length X)) /\ (((0 : Int) = (0 : Int)) /\ ((Eq (α := List Value) (gC enF g.2) (gC enF X)) /\ ((Plain (gC enF g.2)) /\ ((Eq (α := List Value) (gC enF g.3) (gC enF F))
  /\ ((Plain (gC enF g.3)) /\ ((Eq (α := List Value) (gC enR (g.1 ++ [])) ([Value.string (ByteArray.mk #[58, 115, 116, 97, 116, 117, 115]), Value.string (digZ r.1),
  Value.int IntKind.i64 (1 : Int), Value.string (ByteArray.mk #[101, 116, 97, 103]), Value.string (bs r.3), Value.int IntKind.i64 (1 : Int)])) /\ ((Plain (gC enR (g.1 ++
  []))) /\ (∀ (y2 : Unit), ((True) → ((0 = 0) /\ ((n = List.length g.1 + List.length g.2) /\ ((v = bs g.4) /\ ((Eq (α := List Value) (gC enF X) (gC enF g.2)) /\ ((Plain (gC
  enF X)) /\ ((Eq (α := List Value) (gC enF F) (gC enF g.3)) /\ ((Plain (gC enF F)) /\ ((Eq (α := List Value) (gC enR R) (gC enR (g.1 ++ List.map toR (List.take (List.length
  g.2) g.2)))) /\ ((Plain (gC enR R)) /\ True)))))))))))))))))))))))))) (∃ g : GRe, ((List.length g.1 <= 3 /\ List.length g.2 <= 1048576) /\ ((bs g.4 = bs r.4) /\ ((0 = 0)
  /\ ((List.length g.1 + 0 = 1) /\ ((0 = 0) /\ ((List.length g.2 = List.length X) /\ (((↑(List.length g.2) : Int) = Int.ofNat (List.length X)) /\ (((0 : Int) = (0 : Int)) /\
  ((Eq (α := List Value) (gC enF g.2) (gC enF X)) /\ ((Plain (gC enF g.2)) /\ ((Eq (α := List Value) (gC enF g.3) (gC enF F)) /\ ((Plain (gC enF g.3)) /\ ((Eq (α := List
  Value) (gC enR (g.1 ++ [])) ([Value.string (ByteArray.mk #[58, 115, 116, 97, 116, 117, 115]), Value.string (digZ r.1), Value.int IntKind.i64 (1 : Int)])) /\ ((Plain (gC
  enR (g.1 ++ []))) /\ (∀ (y2 : Unit), ((True) → ((0 = 0) /\ ((n = List.length g.1 + List.length g.2) /\ ((v = bs g.4) /\ ((Eq (α := List Value) (gC enF X) (gC enF g.2)) /\
  ((Plain (gC enF X)) /\ ((Eq (α := List Value) (gC enF F) (gC enF g.3)) /\ ((Plain (gC enF F)) /\ ((Eq (α := List Value) (gC enR R) (gC enR (g.1 ++ List.map toR (List.take
  (List.length g.2) g.2)))) /\ ((Plain (gC enR R)) /\ True))))))))))))))))))))))))))))))))) (((((True /\ (True /\ (True /\ ((0 + List.length F * 2 <= List.length (gC enF F)
  /\ Plain (List.take (List.length F * 2) (List.drop 0 (gC enF F)))) /\ (True /\ (True /\ (True /\ (True /\ (True /\ True))))))))) /\ (True /\ True)) /\ ((True /\ True) /\
  (True /\ (IsF (Row.mk (List.take (List.length F * 2) (List.drop 0 (gC enF F))) true (Ob.cells true)) (List.length F) /\ List.length F <= 9223372036854775807))))) /\ (br
  (strEq (fsV (Row.mk (List.take (List.length F * 2) (List.drop 0 (gC enF F))) true (Ob.cells true)) (ByteArray.mk #[58, 109, 101, 116, 104, 111, 100])) (ByteArray.mk #[72,
  69, 65, 68])) ((((True /\ True) /\ (True /\ (True /\ I64 r.1)))) /\ (br (!strEq (bs r.2) (ByteArray.mk #[])) (br (!strEq (bs r.3) (ByteArray.mk #[])) (∃ g : GRe,
  ((List.length g.1 <= 3 /\ List.length g.2 <= 1048576) /\ ((bs g.4 = ByteArray.mk #[]) /\ ((0 = 0) /\ ((List.length g.1 + 0 = 3) /\ ((0 = 0) /\ ((List.length g.2 =
  List.length X) /\ (((↑(List.length g.2) : Int) = Int.ofNat (List.length X)) /\ (((0 : Int) = (0 : Int)) /\ ((Eq (α := List Value) (gC enF g.2) (gC enF X)) /\ ((Plain (gC
  enF g.2)) /\ ((Eq (α := List Value) (gC enF g.3) (gC enF F)) /\ ((Plain (gC enF g.3)) /\ ((Eq (α := List Value) (gC enR (g.1 ++ [])) ([Value.string (ByteArray.mk #[58,
  115, 116, 97, 116, 117, 115]), Value.string (digZ r.1), Value.int IntKind.i64 (1 : Int), Value.string (ByteArray.mk #[99, 97, 99, 104, 101, 45, 99, 111, 110, 116, 114,
  111, 108]), Value.string (bs r.2), Value.int IntKind.i64 (1 : Int), Value.string (ByteArray.mk #[101, 116, 97, 103]), Value.string (bs r.3), Value.int IntKind.i64 (1 :
  Int)])) /\ ((Plain (gC enR (g.1 ++ []))) /\ (∀ (y2 : Unit), ((True) → ((0 = 0) /\ ((n = List.length g.1 + List.length g.2) /\ ((v = bs g.4) /\ ((Eq (α := List Value) (gC
  enF X) (gC enF g.2)) /\ ((Plain (gC enF X)) /\ ((Eq (α := List Value) (gC enF F) (gC enF g.3)) /\ ((Plain (gC enF F)) /\ ((Eq (α := List Value) (gC enR R) (gC enR (g.1 ++
  List.map toR (List.take (List.length g.2) g.2)))) /\ ((Plain (gC enR R)) /\ True)))))))))))))))))))))))))) (∃ g : GRe, ((List.length g.1 <= 3 /\ List.length g.2 <=
  1048576) /\ ((bs g.4 = ByteArray.mk #[]) /\ ((0 = 0) /\ ((List.length g.1 + 0 = 2) /\ ((0 = 0) /\ ((List.length g.2 = List.length X) /\ (((↑(List.length g.2) : Int) =
  Int.ofNat (List.length X)) /\ (((0 : Int) = (0 : Int)) /\ ((Eq (α := List Value) (gC enF g.2) (gC enF X)) /\ ((Plain (gC enF g.2)) /\ ((Eq (α := List Value) (gC enF g.3)
  (gC enF F)) /\ ((Plain (gC enF g.3)) /\ ((Eq (α := List Value) (gC enR (g.1 ++ [])) ([Value.string (ByteArray.mk #[58, 115, 116, 97, 116, 117, 115]), Value.string (digZ
  r.1), Value.int IntKind.i64 (1 : Int), Value.string (ByteArray.mk #[99, 97, 99, 104, 101, 45, 99, 111, 110, 116, 114, 111, 108]), Value.string (bs r.2), Value.int
  IntKind.i64 (1 : Int)])) /\ ((Plain (gC enR (g.1 ++ []))) /\ (∀ (y2 : Unit), ((True) → ((0 = 0) /\ ((n = List.length g.1 + List.length g.2) /\ ((v = bs g.4) /\ ((Eq (α :=
  List Value) (gC enF X) (gC enF g.2)) /\ ((Plain (gC enF X)) /\ ((Eq (α := List Value) (gC enF F) (gC enF g.3)) /\ ((Plain (gC enF F)) /\ ((Eq (α := List Value) (gC enR R)
  (gC enR (g.1 ++ List.map toR (List.take (List.length g.2) g.2)))) /\ ((Plain (gC enR R)) /\ True))))))))))))))))))))))))))) (br (!strEq (bs r.3) (ByteArray.mk #[])) (∃ g :
  GRe, ((List.length g.1 <= 3 /\ List.length g.2 <= 1048576) /\ ((bs g.4 = ByteArray.mk #[]) /\ ((0 = 0) /\ ((List.length g.1 + 0 = 2) /\ ((0 = 0) /\ ((List.length g.2 =
  List.length X) /\ (((↑(List.length g.2) : Int) = Int.ofNat (List.length X)) /\ (((0 : Int) = (0 : Int)) /\ ((Eq (α := List Value) (gC enF g.2) (gC enF X)) /\ ((Plain (gC
  enF g.2)) /\ ((Eq (α := List Value) (gC enF g.3) (gC enF F)) /\ ((Plain (gC enF g.3)) /\ ((Eq (α := List Value) (gC enR (g.1 ++ [])) ([Value.string (ByteArray.mk #[58,
  115, 116, 97, 116, 117, 115]), Value.string (digZ r.1), Value.int IntKind.i64 (1 : Int), Value.string (ByteArray.mk #[101, 116, 97, 103]), Value.string (bs r.3), Value.int
  IntKind.i64 (1 : Int)])) /\ ((Plain (gC enR (g.1 ++ []))) /\ (∀ (y2 : Unit), ((True) → ((0 = 0) /\ ((n = List.length g.1 + List.length g.2) /\ ((v = bs g.4) /\ ((Eq (α :=
  List Value) (gC enF X) (gC enF g.2)) /\ ((Plain (gC enF X)) /\ ((Eq (α := List Value) (gC enF F) (gC enF g.3)) /\ ((Plain (gC enF F)) /\ ((Eq (α := List Value) (gC enR R)
  (gC enR (g.1 ++ List.map toR (List.take (List.length g.2) g.2)))) /\ ((Plain (gC enR R)) /\ True)))))))))))))))))))))))))) (∃ g : GRe, ((List.length g.1 <= 3 /\
  List.length g.2 <= 1048576) /\ ((bs g.4 = ByteArray.mk #[]) /\ ((0 = 0) /\ ((List.length g.1 + 0 = 1) /\ ((0 = 0) /\ ((List.length g.2 = List.length X) /\ (((↑(List.length
  g.2) : Int) = Int.ofNat (List.length X)) /\ (((0 : Int) = (0 : Int)) /\ ((Eq (α := List Value) (gC enF g.2) (gC enF X)) /\ ((Plain (gC enF g.2)) /\ ((Eq (α := List Value)
  (gC enF g.3) (gC enF F)) /\ ((Plain (gC enF g.3)) /\ ((Eq (α := List Value) (gC enR (g.1 ++ [])) ([Value.string (ByteArray.mk #[58, 115, 116, 97, 116, 117, 115]),
  Value.string (digZ r.1), Value.int IntKind.i64 (1 : Int)])) /\ ((Plain (gC enR (g.1 ++ []))) /\ (∀ (y2 : Unit), ((True) → ((0 = 0) /\ ((n = List.length g.1 + List.length
  g.2) /\ ((v = bs g.4) /\ ((Eq (α := List Value) (gC enF X) (gC enF g.2)) /\ ((Plain (gC enF X)) /\ ((Eq (α := List Value) (gC enF F) (gC enF g.3)) /\ ((Plain (gC enF F))
  /\ ((Eq (α := List Value) (gC enR R) (gC enR (g.1 ++ List.map toR (List.take (List.length g.2) g.2)))) /\ ((Plain (gC enR R)) /\ True))))))))))))))))))))))))))))) (br (r.1
  == (204 : Int)) ((((True /\ True) /\ (True /\ (True /\ I64 r.1)))) /\ (br (!strEq (bs r.2) (ByteArray.mk #[])) (br (!strEq (bs r.3) (ByteArray.mk #[])) (∃ g : GRe,
  ((List.length g.1 <= 3 /\ List.length g.2 <= 1048576) /\ ((bs g.4 = ByteArray.mk #[]) /\ ((0 = 0) /\ ((List.length g.1 + 0 = 3) /\ ((0 = 0) /\ ((List.length g.2 =
  List.length X) /\ (((↑(List.length g.2) : Int) = Int.ofNat (List.length X)) /\ (((0 : Int) = (0 : Int)) /\ ((Eq (α := List Value) (gC enF g.2) (gC enF X)) /\ ((Plain (gC
  enF g.2)) /\ ((Eq (α := List Value) (gC enF g.3) (gC enF F)) /\ ((Plain (gC enF g.3)) /\ ((Eq (α := List Value) (gC enR (g.1 ++ [])) ([Value.string (ByteArray.mk #[58,
  115, 116, 97, 116, 117, 115]), Value.string (digZ r.1), Value.int IntKind.i64 (1 : Int), Value.string (ByteArray.mk #[99, 97, 99, 104, 101, 45, 99, 111, 110, 116, 114,
  111, 108]), Value.string (bs r.2), Value.int IntKind.i64 (1 : Int), Value.string (ByteArray.mk #[101, 116, 97, 103]), Value.string (bs r.3), Value.int IntKind.i64 (1 :
  Int)])) /\ ((Plain (gC enR (g.1 ++ []))) /\ (∀ (y2 : Unit), ((True) → ((0 = 0) /\ ((n = List.length g.1 + List.length g.2) /\ ((v = bs g.4) /\ ((Eq (α := List Value) (gC
  enF X) (gC enF g.2)) /\ ((Plain (gC enF X)) /\ ((Eq (α := List Value) (gC enF F) (gC enF g.3)) /\ ((Plain (gC enF F)) /\ ((Eq (α := List Value) (gC enR R) (gC enR (g.1 ++
  List.map toR (List.take (List.length g.2) g.2)))) /\ ((Plain (gC enR R)) /\ True)))))))))))))))))))))))))) (∃ g : GRe, ((List.length g.1 <= 3 /\ List.length g.2 <=
  1048576) /\ ((bs g.4 = ByteArray.mk #[]) /\ ((0 = 0) /\ ((List.length g.1 + 0 = 2) /\ ((0 = 0) /\ ((List.length g.2 = List.length X) /\ (((↑(List.length g.2) : Int) =
  Int.ofNat (List.length X)) /\ (((0 : Int) = (0 : Int)) /\ ((Eq (α := List Value) (gC enF g.2) (gC enF X)) /\ ((Plain (gC enF g.2)) /\ ((Eq (α := List Value) (gC enF g.3)
  (gC enF F)) /\ ((Plain (gC enF g.3)) /\ ((Eq (α := List Value) (gC enR (g.1 ++ [])) ([Value.string (ByteArray.mk #[58, 115, 116, 97, 116, 117, 115]), Value.string (digZ
  r.1), Value.int IntKind.i64 (1 : Int), Value.string (ByteArray.mk #[99, 97, 99, 104, 101, 45, 99, 111, 110, 116, 114, 111, 108]), Value.string (bs r.2), Value.int
  IntKind.i64 (1 : Int)])) /\ ((Plain (gC enR (g.1 ++ []))) /\ (∀ (y2 : Unit), ((True) → ((0 = 0) /\ ((n = List.length g.1 + List.length g.2) /\ ((v = bs g.4) /\ ((Eq (α :=
  List Value) (gC enF X) (gC enF g.2)) /\ ((Plain (gC enF X)) /\ ((Eq (α := List Value) (gC enF F) (gC enF g.3)) /\ ((Plain (gC enF F)) /\ ((Eq (α := List Value) (gC enR R)
  (gC enR (g.1 ++ List.map toR (List.take (List.length g.2) g.2)))) /\ ((Plain (gC enR R)) /\ True))))))))))))))))))))))))))) (br (!strEq (bs r.3) (ByteArray.mk #[])) (∃ g :
  GRe, ((List.length g.1 <= 3 /\ List.length g.2 <= 1048576) /\ ((bs g.4 = ByteArray.mk #[]) /\ ((0 = 0) /\ ((List.length g.1 + 0 = 2) /\ ((0 = 0) /\ ((List.length g.2 =
  List.length X) /\ (((↑(List.length g.2) : Int) = Int.ofNat (List.length X)) /\ (((0 : Int) = (0 : Int)) /\ ((Eq (α := List Value) (gC enF g.2) (gC enF X)) /\ ((Plain (gC
  enF g.2)) /\ ((Eq (α := List Value) (gC enF g.3) (gC enF F)) /\ ((Plain (gC enF g.3)) /\ ((Eq (α := List Value) (gC enR (g.1 ++ [])) ([Value.string (ByteArray.mk #[58,
  115, 116, 97, 116, 117, 115]), Value.string (digZ r.1), Value.int IntKind.i64 (1 : Int), Value.string (ByteArray.mk #[101, 116, 97, 103]), Value.string (bs r.3), Value.int
  IntKind.i64 (1 : Int)])) /\ ((Plain (gC enR (g.1 ++ []))) /\ (∀ (y2 : Unit), ((True) → ((0 = 0) /\ ((n = List.length g.1 + List.length g.2) /\ ((v = bs g.4) /\ ((Eq (α :=
  List Value) (gC enF X) (gC enF g.2)) /\ ((Plain (gC enF X)) /\ ((Eq (α := List Value) (gC enF F) (gC enF g.3)) /\ ((Plain (gC enF F)) /\ ((Eq (α := List Value) (gC enR R)
  (gC enR (g.1 ++ List.map toR (List.take (List.length g.2) g.2)))) /\ ((Plain (gC enR R)) /\ True)))))))))))))))))))))))))) (∃ g : GRe, ((List.length g.1 <= 3 /\
  List.length g.2 <= 1048576) /\ ((bs g.4 = ByteArray.mk #[]) /\ ((0 = 0) /\ ((List.length g.1 + 0 = 1) /\ ((0 = 0) /\ ((List.length g.2 = List.length X) /\ (((↑(List.length
  g.2) : Int) = Int.ofNat (List.length X)) /\ (((0 : Int) = (0 : Int)) /\ ((Eq (α := List Value) (gC enF g.2) (gC enF X)) /\ ((Plain (gC enF g.2)) /\ ((Eq (α := List Value)
  (gC enF g.3) (gC enF F)) /\ ((Plain (gC enF g.3)) /\ ((Eq (α := List Value) (gC enR (g.1 ++ [])) ([Value.string (ByteArray.mk #[58, 115, 116, 97, 116, 117, 115]),
  Value.string (digZ r.1), Value.int IntKind.i64 (1 : Int)])) /\ ((Plain (gC enR (g.1 ++ []))) /\ (∀ (y2 : Unit), ((True) → ((0 = 0) /\ ((n = List.length g.1 + List.length
  g.2) /\ ((v = bs g.4) /\ ((Eq (α := List Value) (gC enF X) (gC enF g.2)) /\ ((Plain (gC enF X)) /\ ((Eq (α := List Value) (gC enF F) (gC enF g.3)) /\ ((Plain (gC enF F))
  /\ ((Eq (α := List Value) (gC enR R) (gC enR (g.1 ++ List.map toR (List.take (List.length g.2) g.2)))) /\ ((Plain (gC enR R)) /\ True))))))))))))))))))))))))))))) ((((True
  /\ True) /\ (True /\ (True /\ I64 r.1)))) /\ (br (!strEq (bs r.2) (ByteArray.mk #[])) (br (!strEq (bs r.3) (ByteArray.mk #[])) (∃ g : GRe, ((List.length g.1 <= 3 /\
  List.length g.2 <= 1048576) /\ ((bs g.4 = bs r.4) /\ ((0 = 0) /\ ((List.length g.1 + 0 = 3) /\ ((0 = 0) /\ ((List.length g.2 = List.length X) /\ (((↑(List.length g.2) :
  Int) = Int.ofNat (List.length X)) /\ (((0 : Int) = (0 : Int)) /\ ((Eq (α := List Value) (gC enF g.2) (gC enF X)) /\ ((Plain (gC enF g.2)) /\ ((Eq (α := List Value) (gC enF
  g.3) (gC enF F)) /\ ((Plain (gC enF g.3)) /\ ((Eq (α := List Value) (gC enR (g.1 ++ [])) ([Value.string (ByteArray.mk #[58, 115, 116, 97, 116, 117, 115]), Value.string
  (digZ r.1), Value.int IntKind.i64 (1 : Int), Value.string (ByteArray.mk #[99, 97, 99, 104, 101, 45, 99, 111, 110, 116, 114, 111, 108]), Value.string (bs r.2), Value.int
  IntKind.i64 (1 : Int), Value.string (ByteArray.mk #[101, 116, 97, 103]), Value.string (bs r.3), Value.int IntKind.i64 (1 : Int)])) /\ ((Plain (gC enR (g.1 ++ []))) /\ (∀
  (y2 : Unit), ((True) → ((0 = 0) /\ ((n = List.length g.1 + List.length g.2) /\ ((v = bs g.4) /\ ((Eq (α := List Value) (gC enF X) (gC enF g.2)) /\ ((Plain (gC enF X)) /\
  ((Eq (α := List Value) (gC enF F) (gC enF g.3)) /\ ((Plain (gC enF F)) /\ ((Eq (α := List Value) (gC enR R) (gC enR (g.1 ++ List.map toR (List.take (List.length g.2)
  g.2)))) /\ ((Plain (gC enR R)) /\ True)))))))))))))))))))))))))) (∃ g : GRe, ((List.length g.1 <= 3 /\ List.length g.2 <= 1048576) /\ ((bs g.4 = bs r.4) /\ ((0 = 0) /\
  ((List.length g.1 + 0 = 2) /\ ((0 = 0) /\ ((List.length g.2 = List.length X) /\ (((↑(List.length g.2) : Int) = Int.ofNat (List.length X)) /\ (((0 : Int) = (0 : Int)) /\
  ((Eq (α := List Value) (gC enF g.2) (gC enF X)) /\ ((Plain (gC enF g.2)) /\ ((Eq (α := List Value) (gC enF g.3) (gC enF F)) /\ ((Plain (gC enF g.3)) /\ ((Eq (α := List
  Value) (gC enR (g.1 ++ [])) ([Value.string (ByteArray.mk #[58, 115, 116, 97, 116, 117, 115]), Value.string (digZ r.1), Value.int IntKind.i64 (1 : Int), Value.string
  (ByteArray.mk #[99, 97, 99, 104, 101, 45, 99, 111, 110, 116, 114, 111, 108]), Value.string (bs r.2), Value.int IntKind.i64 (1 : Int)])) /\ ((Plain (gC enR (g.1 ++ []))) /\
  (∀ (y2 : Unit), ((True) → ((0 = 0) /\ ((n = List.length g.1 + List.length g.2) /\ ((v = bs g.4) /\ ((Eq (α := List Value) (gC enF X) (gC enF g.2)) /\ ((Plain (gC enF X))
  /\ ((Eq (α := List Value) (gC enF F) (gC enF g.3)) /\ ((Plain (gC enF F)) /\ ((Eq (α := List Value) (gC enR R) (gC enR (g.1 ++ List.map toR (List.take (List.length g.2)
  g.2)))) /\ ((Plain (gC enR R)) /\ True))))))))))))))))))))))))))) (br (!strEq (bs r.3) (ByteArray.mk #[])) (∃ g : GRe, ((List.length g.1 <= 3 /\ List.length g.2 <=
  1048576) /\ ((bs g.4 = bs r.4) /\ ((0 = 0) /\ ((List.length g.1 + 0 = 2) /\ ((0 = 0) /\ ((List.length g.2 = List.length X) /\ (((↑(List.length g.2) : Int) = Int.ofNat
  (List.length X)) /\ (((0 : Int) = (0 : Int)) /\ ((Eq (α := List Value) (gC enF g.2) (gC enF X)) /\ ((Plain (gC enF g.2)) /\ ((Eq (α := List Value) (gC enF g.3) (gC enF F))
  /\ ((Plain (gC enF g.3)) /\ ((Eq (α := List Value) (gC enR (g.1 ++ [])) ([Value.string (ByteArray.mk #[58, 115, 116, 97, 116, 117, 115]), Value.string (digZ r.1),
  Value.int IntKind.i64 (1 : Int), Value.string (ByteArray.mk #[101, 116, 97, 103]), Value.string (bs r.3), Value.int IntKind.i64 (1 : Int)])) /\ ((Plain (gC enR (g.1 ++
  []))) /\ (∀ (y2 : Unit), ((True) → ((0 = 0) /\ ((n = List.length g.1 + List.length g.2) /\ ((v = bs g.4) /\ ((Eq (α := List Value) (gC enF X) (gC enF g.2)) /\ ((Plain (gC
  enF X)) /\ ((Eq (α := List Value) (gC enF F) (gC enF g.3)) /\ ((Plain (gC enF F)) /\ ((Eq (α := List Value) (gC enR R) (gC enR (g.1 ++ List.map toR (List.take (List.length
  g.2) g.2)))) /\ ((Plain (gC enR R)) /\ True)))))))))))))))))))))))))) (∃ g : GRe, ((List.length g.1 <= 3 /\ List.length g.2 <= 1048576) /\ ((bs g.4 = bs r.4) /\ ((0 = 0)
  /\ ((List.length g.1 + 0 = 1) /\ ((0 = 0) /\ ((List.length g.2 = List.length X) /\ (((↑(List.length g.2) : Int) = Int.ofNat (List.length X)) /\ (((0 : Int) = (0 : Int)) /\
  ((Eq (α := List Value) (gC enF g.2) (gC enF X)) /\ ((Plain (gC enF g.2)) /\ ((Eq (α := List Value) (gC enF g.3) (gC enF F)) /\ ((Plain (gC enF g.3)) /\ ((Eq (α := List
  Value) (gC enR (g.1 ++ [])) ([Value.string (ByteArray.mk #[58, 115, 116, 97, 116, 117, 115]), Value.string (digZ r.1), Value.int IntKind.i64 (1 : Int)])) /\ ((Plain (gC
  enR (g.1 ++ []))) /\ (∀ (y2 : Unit), ((True) → ((0 = 0) /\ ((n = List.length g.1 + List.length g.2) /\ ((v = bs g.4) /\ ((Eq (α := List Value) (gC enF X) (gC enF g.2)) /\
  ((Plain (gC enF X)) /\ ((Eq (α := List Value) (gC enF F) (gC enF g.3)) /\ ((Plain (gC enF F)) /\ ((Eq (α := List Value) (gC enR R) (gC enR (g.1 ++ List.map toR (List.take
  (List.length g.2) g.2)))) /\ ((Plain (gC enR R)) /\ True)))))))))))))))))))))))))))))))))))) := by kernel_rfl
theorem tRe_ok : ∀ x ∈ tRe, EntOk Tryz.prog x := all_cons eVa_ok (all_cons eDg_ok (all_nil))
theorem br_ifn {P : Prop} {d : Decidable P} {p q : Prop} (h : ¬ P → p) (k : P → q) : br (!decide P) p q := by
  by_cases hP : P
  · rw [show (!decide P) = false by simp [hP]]; exact k hP
  · rw [show (!decide P) = true by simp [hP]]; exact h hP
theorem br_ifb {a n : Int} {p q : Prop} (h : a = n → p) (k : a ≠ n → q) : br (a == n) p q := by
  by_cases hP : a = n
  · rw [show (a == n) = true by simp [hP]]; exact h hP
  · rw [show (a == n) = false by simp [hP]]; exact k hP
theorem take_map (X : List Fl) (i : Nat) (h : i < X.length) : (X.take (i + 1)).map toR = (X.take i).map toR ++ [toR X[i]] := by
  rw [List.take_succ_eq_append_getElem h, List.map_append]; rfl
theorem Re_piece : PieceOk EtRe 2 (7, pRe, specRe) := by
  refine piece_loop mixed (calls_envT tRe_ok) (lok_envT _ _) lm_none (n := 60) (by kernel_rfl) (fun _ : GRe => (0 : Nat)) (fun g i => i ≤ g.X.length) (fun g i => g.X.length - i) (sl := slRe) (rl := rlRe) (fun g hg => Nat.zero_le _) (fun g i hg hi => ?_)
  refine (Re_round g i _ _).mpr ?_
  simp only [ofNat_eq, toNat_cast, Nat.zero_add, Nat.add_zero, Nat.mul_one, List.drop_zero, bCells_len, bCells_drop, bCells_take, bCells_app, bCells_one, bCells_plain, List.length_replicate, List.length_append, List.length_take, List.length_drop, List.take_length, and_true, true_and, and_self, decide_true, List.length_nil, List.length_cons, Nat.sub_zero, dB_mk, dB_ro, List.take_zero]
  refine br_if (fun h => br_dec (by omega) ?_) (fun h => ?_)
  · have hi' : i < g.X.length := by omega
    obtain ⟨c0, c1, d0, d1⟩ := fGet g.X i hi'
    have hlen : (gC enR (g.P ++ List.map toR (List.take i g.X))).length = (g.P.length + i) * 3 := by
      rw [gC_len enR_k, List.length_append, List.length_map, List.length_take, Nat.min_eq_left (by omega)]
    have w1 : IntKind.i64.wrap ((i : Int) + 1) = ((i + 1 : Nat) : Int) := by rw [wr64_id (by unfold I64; omega)]; omega
    rw [d0, d1, w1]
    refine ⟨c0, c1, br_dec (by omega) (br_dec (by rw [hlen]; exact Nat.le_refl _) ⟨i + 1, by omega, by omega, by omega, rfl, fPl _, fPl _, ?_, rPl _⟩)⟩
    have hcut : List.take ((g.P.length + i) * 3) (gC enR (g.P ++ List.map toR (List.take i g.X))) = gC enR (g.P ++ List.map toR (List.take i g.X)) := List.take_of_length_le (by rw [hlen]; exact Nat.le_refl _)
    rw [take_map _ _ hi', ← List.append_assoc, ← gC_app, hcut]
    rfl
  · have : i = g.X.length := by omega
    subst this
    exact ⟨(), rfl, fPl _, fPl _, by rw [List.take_length], rPl _⟩
theorem Re_con (r : Ru) (y : TkY) (X F : List Fl) (h0 : I64 r.st) (hX : X.length ≤ 1048576) (hF : F.length ≤ maxLen) : Con Tryz.prog 7 [.agg ⟨ruC r 0 X.length⟩, .agg ⟨tkCy y 1 F.length⟩] [gRo enF X, gRo enF F] (.tuple #[.slice (some ⟨2, 0, none⟩) (reU r F X).length 3, .string (bs (boU r F))]) [gRo enF X, gRo enF F, gOwn enR (reU r F X)] := by
  refine con_vc (E := EtRe) mixed (calls_envT tRe_ok) (lok_envT _ _) (M := mRe) (lm_one Re_piece) (Re_vc r y X F _ _ _) ?_
  have tkF : List.take (F.length * 2) (gC enF F) = gC enF F := List.take_of_length_le (by rw [fLen]; exact Nat.le_refl _)
  have e1 : (⟨#[105, 102, 45, 110, 111, 110, 101, 45, 109, 97, 116, 99, 104]⟩ : ByteArray) = bs nIf := rfl
  have e2 : (⟨#[58, 109, 101, 116, 104, 111, 100]⟩ : ByteArray) = bs nMe := rfl
  have e3 : (⟨#[72, 69, 65, 68]⟩ : ByteArray) = bs nHe := rfl
  have e4 : (⟨#[58, 115, 116, 97, 116, 117, 115]⟩ : ByteArray) = bs nSt := rfl
  have e5 : (⟨#[99, 97, 99, 104, 101, 45, 99, 111, 110, 116, 114, 111, 108]⟩ : ByteArray) = bs nCc := rfl
  have e6 : (⟨#[101, 116, 97, 103]⟩ : ByteArray) = bs nEt := rfl
  have e7 : (⟨#[]⟩ : ByteArray) = bs [] := rfl
  have hm : maxLen = 9223372036854775807 := by unfold maxLen; rfl
  have sd : (F.length * 2 ≤ (gC enF F).length ∧ Plain (gC enF F)) ∧ IsF ⟨gC enF F, true, .cells true⟩ F.length ∧ F.length ≤ 9223372036854775807 := ⟨⟨by rw [fLen]; exact Nat.le_refl _, fPl _⟩, ⟨F, rfl, rfl⟩, by omega⟩
  have zd : ∀ x, digZ x = bs (digL x) := fun x => by unfold digZ; rw [sealV_eq]
  simp only [ofNat_eq, toNat_cast, Nat.zero_add, Nat.add_zero, Nat.mul_one, List.drop_zero, bCells_len, bCells_drop, bCells_take, bCells_app, bCells_one, bCells_plain, List.length_replicate, List.length_append, List.length_take, List.length_drop, List.take_length, and_true, true_and, and_self, decide_true, List.length_nil, List.length_cons, Nat.sub_zero, dB_mk, dB_ro, List.take_zero, tkF, e1, e2, e3, e4, e5, e6, e7, n_fsV, n_fsB, strEq_bs, zd, List.append_nil]
  have lf : ∀ (P : List Fl) (b : List UInt8), P.length ≤ 3 → reU r F X = (P ++ X).map toR → boU r F = b → ∃ g : GRe, (g.P.length ≤ 3 ∧ g.X.length ≤ 1048576) ∧ bs g.b = bs b ∧ g.P.length = (P.map toR).length ∧ g.X.length = X.length ∧ (g.X.length : Int) = (X.length : Int) ∧ gC enF g.X = gC enF X ∧ Plain (gC enF g.X) ∧ gC enF g.F = gC enF F ∧ Plain (gC enF g.F) ∧ gC enR g.P = gC enR (P.map toR) ∧ Plain (gC enR g.P) ∧
      ∀ (_ : Unit), True → (reU r F X).length = g.P.length + g.X.length ∧ bs (boU r F) = bs g.b ∧ gC enF X = gC enF g.X ∧ Plain (gC enF X) ∧ gC enF F = gC enF g.F ∧ Plain (gC enF F) ∧ gC enR (reU r F X) = gC enR (g.P ++ List.map toR g.X) ∧ Plain (gC enR (reU r F X)) := by
    intro P b k1 k2 k3
    refine ⟨⟨P.map toR, X, F, b⟩, ⟨by simpa using k1, hX⟩, rfl, rfl, rfl, rfl, rfl, fPl _, rfl, fPl _, rfl, rPl _, fun _ _ => ⟨by rw [k2]; simp, by rw [k3], rfl, fPl _, rfl, fPl _, by rw [k2, List.map_append], rPl _⟩⟩
  have hN : (fstF nIf F).isSome = false → fsL nIf F = [] := fun h => by
    unfold fsL
    cases hh : fstF nIf F with
    | none => rfl
    | some x => rw [hh] at h; simp at h
  have hT : ∀ u : Bool, isU r F = u → decide (r.t ≠ [] ∧ fsL nIf F = r.t) = u := fun u h => h
  refine ⟨sd, br_intro (fun a => br_intro (fun b => br_intro (fun c => ?_) (fun c => ?_)) (fun b => ?_)) (fun a => ?_)⟩
  · have hu : isU r F = true := by unfold isU; simp at b c ⊢; exact ⟨b, c⟩
    refine ⟨sd, ?_⟩
    repeat' first
      | refine br_ifn (fun _ => ?_) (fun _ => ?_)
      | refine br_ifb (fun _ => ?_) (fun _ => ?_)
      | refine br_if (fun _ => ?_) (fun _ => ?_)
      | refine And.intro (by first | exact h0 | (unfold I64; omega)) ?_
    all_goals first
    | exact lf [⟨nSt, digL 304⟩] [] (Nat.le_of_ble_eq_true rfl) (by unfold reU heU stU; simp [*]) (by unfold boU stU; simp [*])
    | exact lf [⟨nSt, digL 304⟩] r.b (Nat.le_of_ble_eq_true rfl) (by unfold reU heU stU; simp [*]) (by unfold boU stU; simp [*])
    | exact lf [⟨nSt, digL 304⟩, ⟨nEt, r.t⟩] [] (Nat.le_of_ble_eq_true rfl) (by unfold reU heU stU; simp [*]) (by unfold boU stU; simp [*])
    | exact lf [⟨nSt, digL 304⟩, ⟨nEt, r.t⟩] r.b (Nat.le_of_ble_eq_true rfl) (by unfold reU heU stU; simp [*]) (by unfold boU stU; simp [*])
    | exact lf [⟨nSt, digL 304⟩, ⟨nCc, r.c⟩] [] (Nat.le_of_ble_eq_true rfl) (by unfold reU heU stU; simp [*]) (by unfold boU stU; simp [*])
    | exact lf [⟨nSt, digL 304⟩, ⟨nCc, r.c⟩] r.b (Nat.le_of_ble_eq_true rfl) (by unfold reU heU stU; simp [*]) (by unfold boU stU; simp [*])
    | exact lf [⟨nSt, digL 304⟩, ⟨nCc, r.c⟩, ⟨nEt, r.t⟩] [] (Nat.le_of_ble_eq_true rfl) (by unfold reU heU stU; simp [*]) (by unfold boU stU; simp [*])
    | exact lf [⟨nSt, digL 304⟩, ⟨nCc, r.c⟩, ⟨nEt, r.t⟩] r.b (Nat.le_of_ble_eq_true rfl) (by unfold reU heU stU; simp [*]) (by unfold boU stU; simp [*])
    | exact lf [⟨nSt, digL r.st⟩] [] (Nat.le_of_ble_eq_true rfl) (by unfold reU heU stU; simp [*]) (by unfold boU stU; simp [*])
    | exact lf [⟨nSt, digL r.st⟩] r.b (Nat.le_of_ble_eq_true rfl) (by unfold reU heU stU; simp [*]) (by unfold boU stU; simp [*])
    | exact lf [⟨nSt, digL r.st⟩, ⟨nEt, r.t⟩] [] (Nat.le_of_ble_eq_true rfl) (by unfold reU heU stU; simp [*]) (by unfold boU stU; simp [*])
    | exact lf [⟨nSt, digL r.st⟩, ⟨nEt, r.t⟩] r.b (Nat.le_of_ble_eq_true rfl) (by unfold reU heU stU; simp [*]) (by unfold boU stU; simp [*])
    | exact lf [⟨nSt, digL r.st⟩, ⟨nCc, r.c⟩] [] (Nat.le_of_ble_eq_true rfl) (by unfold reU heU stU; simp [*]) (by unfold boU stU; simp [*])
    | exact lf [⟨nSt, digL r.st⟩, ⟨nCc, r.c⟩] r.b (Nat.le_of_ble_eq_true rfl) (by unfold reU heU stU; simp [*]) (by unfold boU stU; simp [*])
    | exact lf [⟨nSt, digL r.st⟩, ⟨nCc, r.c⟩, ⟨nEt, r.t⟩] [] (Nat.le_of_ble_eq_true rfl) (by unfold reU heU stU; simp [*]) (by unfold boU stU; simp [*])
    | exact lf [⟨nSt, digL r.st⟩, ⟨nCc, r.c⟩, ⟨nEt, r.t⟩] r.b (Nat.le_of_ble_eq_true rfl) (by unfold reU heU stU; simp [*]) (by unfold boU stU; simp [*])
  · have hu : isU r F = false := by unfold isU; simp at b c ⊢; exact fun _ => c
    refine ⟨sd, ?_⟩
    repeat' first
      | refine br_ifn (fun _ => ?_) (fun _ => ?_)
      | refine br_ifb (fun _ => ?_) (fun _ => ?_)
      | refine br_if (fun _ => ?_) (fun _ => ?_)
      | refine And.intro (by first | exact h0 | (unfold I64; omega)) ?_
    all_goals first
    | exact lf [⟨nSt, digL 304⟩] [] (Nat.le_of_ble_eq_true rfl) (by unfold reU heU stU; simp [*]) (by unfold boU stU; simp [*])
    | exact lf [⟨nSt, digL 304⟩] r.b (Nat.le_of_ble_eq_true rfl) (by unfold reU heU stU; simp [*]) (by unfold boU stU; simp [*])
    | exact lf [⟨nSt, digL 304⟩, ⟨nEt, r.t⟩] [] (Nat.le_of_ble_eq_true rfl) (by unfold reU heU stU; simp [*]) (by unfold boU stU; simp [*])
    | exact lf [⟨nSt, digL 304⟩, ⟨nEt, r.t⟩] r.b (Nat.le_of_ble_eq_true rfl) (by unfold reU heU stU; simp [*]) (by unfold boU stU; simp [*])
    | exact lf [⟨nSt, digL 304⟩, ⟨nCc, r.c⟩] [] (Nat.le_of_ble_eq_true rfl) (by unfold reU heU stU; simp [*]) (by unfold boU stU; simp [*])
    | exact lf [⟨nSt, digL 304⟩, ⟨nCc, r.c⟩] r.b (Nat.le_of_ble_eq_true rfl) (by unfold reU heU stU; simp [*]) (by unfold boU stU; simp [*])
    | exact lf [⟨nSt, digL 304⟩, ⟨nCc, r.c⟩, ⟨nEt, r.t⟩] [] (Nat.le_of_ble_eq_true rfl) (by unfold reU heU stU; simp [*]) (by unfold boU stU; simp [*])
    | exact lf [⟨nSt, digL 304⟩, ⟨nCc, r.c⟩, ⟨nEt, r.t⟩] r.b (Nat.le_of_ble_eq_true rfl) (by unfold reU heU stU; simp [*]) (by unfold boU stU; simp [*])
    | exact lf [⟨nSt, digL r.st⟩] [] (Nat.le_of_ble_eq_true rfl) (by unfold reU heU stU; simp [*]) (by unfold boU stU; simp [*])
    | exact lf [⟨nSt, digL r.st⟩] r.b (Nat.le_of_ble_eq_true rfl) (by unfold reU heU stU; simp [*]) (by unfold boU stU; simp [*])
    | exact lf [⟨nSt, digL r.st⟩, ⟨nEt, r.t⟩] [] (Nat.le_of_ble_eq_true rfl) (by unfold reU heU stU; simp [*]) (by unfold boU stU; simp [*])
    | exact lf [⟨nSt, digL r.st⟩, ⟨nEt, r.t⟩] r.b (Nat.le_of_ble_eq_true rfl) (by unfold reU heU stU; simp [*]) (by unfold boU stU; simp [*])
    | exact lf [⟨nSt, digL r.st⟩, ⟨nCc, r.c⟩] [] (Nat.le_of_ble_eq_true rfl) (by unfold reU heU stU; simp [*]) (by unfold boU stU; simp [*])
    | exact lf [⟨nSt, digL r.st⟩, ⟨nCc, r.c⟩] r.b (Nat.le_of_ble_eq_true rfl) (by unfold reU heU stU; simp [*]) (by unfold boU stU; simp [*])
    | exact lf [⟨nSt, digL r.st⟩, ⟨nCc, r.c⟩, ⟨nEt, r.t⟩] [] (Nat.le_of_ble_eq_true rfl) (by unfold reU heU stU; simp [*]) (by unfold boU stU; simp [*])
    | exact lf [⟨nSt, digL r.st⟩, ⟨nCc, r.c⟩, ⟨nEt, r.t⟩] r.b (Nat.le_of_ble_eq_true rfl) (by unfold reU heU stU; simp [*]) (by unfold boU stU; simp [*])
  · have hu : isU r F = false := by unfold isU; simp at b ⊢; exact fun h => absurd b h
    refine ⟨sd, ?_⟩
    repeat' first
      | refine br_ifn (fun _ => ?_) (fun _ => ?_)
      | refine br_ifb (fun _ => ?_) (fun _ => ?_)
      | refine br_if (fun _ => ?_) (fun _ => ?_)
      | refine And.intro (by first | exact h0 | (unfold I64; omega)) ?_
    all_goals first
    | exact lf [⟨nSt, digL 304⟩] [] (Nat.le_of_ble_eq_true rfl) (by unfold reU heU stU; simp [*]) (by unfold boU stU; simp [*])
    | exact lf [⟨nSt, digL 304⟩] r.b (Nat.le_of_ble_eq_true rfl) (by unfold reU heU stU; simp [*]) (by unfold boU stU; simp [*])
    | exact lf [⟨nSt, digL 304⟩, ⟨nEt, r.t⟩] [] (Nat.le_of_ble_eq_true rfl) (by unfold reU heU stU; simp [*]) (by unfold boU stU; simp [*])
    | exact lf [⟨nSt, digL 304⟩, ⟨nEt, r.t⟩] r.b (Nat.le_of_ble_eq_true rfl) (by unfold reU heU stU; simp [*]) (by unfold boU stU; simp [*])
    | exact lf [⟨nSt, digL 304⟩, ⟨nCc, r.c⟩] [] (Nat.le_of_ble_eq_true rfl) (by unfold reU heU stU; simp [*]) (by unfold boU stU; simp [*])
    | exact lf [⟨nSt, digL 304⟩, ⟨nCc, r.c⟩] r.b (Nat.le_of_ble_eq_true rfl) (by unfold reU heU stU; simp [*]) (by unfold boU stU; simp [*])
    | exact lf [⟨nSt, digL 304⟩, ⟨nCc, r.c⟩, ⟨nEt, r.t⟩] [] (Nat.le_of_ble_eq_true rfl) (by unfold reU heU stU; simp [*]) (by unfold boU stU; simp [*])
    | exact lf [⟨nSt, digL 304⟩, ⟨nCc, r.c⟩, ⟨nEt, r.t⟩] r.b (Nat.le_of_ble_eq_true rfl) (by unfold reU heU stU; simp [*]) (by unfold boU stU; simp [*])
    | exact lf [⟨nSt, digL r.st⟩] [] (Nat.le_of_ble_eq_true rfl) (by unfold reU heU stU; simp [*]) (by unfold boU stU; simp [*])
    | exact lf [⟨nSt, digL r.st⟩] r.b (Nat.le_of_ble_eq_true rfl) (by unfold reU heU stU; simp [*]) (by unfold boU stU; simp [*])
    | exact lf [⟨nSt, digL r.st⟩, ⟨nEt, r.t⟩] [] (Nat.le_of_ble_eq_true rfl) (by unfold reU heU stU; simp [*]) (by unfold boU stU; simp [*])
    | exact lf [⟨nSt, digL r.st⟩, ⟨nEt, r.t⟩] r.b (Nat.le_of_ble_eq_true rfl) (by unfold reU heU stU; simp [*]) (by unfold boU stU; simp [*])
    | exact lf [⟨nSt, digL r.st⟩, ⟨nCc, r.c⟩] [] (Nat.le_of_ble_eq_true rfl) (by unfold reU heU stU; simp [*]) (by unfold boU stU; simp [*])
    | exact lf [⟨nSt, digL r.st⟩, ⟨nCc, r.c⟩] r.b (Nat.le_of_ble_eq_true rfl) (by unfold reU heU stU; simp [*]) (by unfold boU stU; simp [*])
    | exact lf [⟨nSt, digL r.st⟩, ⟨nCc, r.c⟩, ⟨nEt, r.t⟩] [] (Nat.le_of_ble_eq_true rfl) (by unfold reU heU stU; simp [*]) (by unfold boU stU; simp [*])
    | exact lf [⟨nSt, digL r.st⟩, ⟨nCc, r.c⟩, ⟨nEt, r.t⟩] r.b (Nat.le_of_ble_eq_true rfl) (by unfold reU heU stU; simp [*]) (by unfold boU stU; simp [*])
  · have hu : isU r F = false := by unfold isU; rw [hN a]; (first | (simp; done) | (simp; exact fun h e => h e.symm))
    refine ⟨sd, ?_⟩
    repeat' first
      | refine br_ifn (fun _ => ?_) (fun _ => ?_)
      | refine br_ifb (fun _ => ?_) (fun _ => ?_)
      | refine br_if (fun _ => ?_) (fun _ => ?_)
      | refine And.intro (by first | exact h0 | (unfold I64; omega)) ?_
    all_goals first
    | exact lf [⟨nSt, digL 304⟩] [] (Nat.le_of_ble_eq_true rfl) (by unfold reU heU stU; simp [*]) (by unfold boU stU; simp [*])
    | exact lf [⟨nSt, digL 304⟩] r.b (Nat.le_of_ble_eq_true rfl) (by unfold reU heU stU; simp [*]) (by unfold boU stU; simp [*])
    | exact lf [⟨nSt, digL 304⟩, ⟨nEt, r.t⟩] [] (Nat.le_of_ble_eq_true rfl) (by unfold reU heU stU; simp [*]) (by unfold boU stU; simp [*])
    | exact lf [⟨nSt, digL 304⟩, ⟨nEt, r.t⟩] r.b (Nat.le_of_ble_eq_true rfl) (by unfold reU heU stU; simp [*]) (by unfold boU stU; simp [*])
    | exact lf [⟨nSt, digL 304⟩, ⟨nCc, r.c⟩] [] (Nat.le_of_ble_eq_true rfl) (by unfold reU heU stU; simp [*]) (by unfold boU stU; simp [*])
    | exact lf [⟨nSt, digL 304⟩, ⟨nCc, r.c⟩] r.b (Nat.le_of_ble_eq_true rfl) (by unfold reU heU stU; simp [*]) (by unfold boU stU; simp [*])
    | exact lf [⟨nSt, digL 304⟩, ⟨nCc, r.c⟩, ⟨nEt, r.t⟩] [] (Nat.le_of_ble_eq_true rfl) (by unfold reU heU stU; simp [*]) (by unfold boU stU; simp [*])
    | exact lf [⟨nSt, digL 304⟩, ⟨nCc, r.c⟩, ⟨nEt, r.t⟩] r.b (Nat.le_of_ble_eq_true rfl) (by unfold reU heU stU; simp [*]) (by unfold boU stU; simp [*])
    | exact lf [⟨nSt, digL r.st⟩] [] (Nat.le_of_ble_eq_true rfl) (by unfold reU heU stU; simp [*]) (by unfold boU stU; simp [*])
    | exact lf [⟨nSt, digL r.st⟩] r.b (Nat.le_of_ble_eq_true rfl) (by unfold reU heU stU; simp [*]) (by unfold boU stU; simp [*])
    | exact lf [⟨nSt, digL r.st⟩, ⟨nEt, r.t⟩] [] (Nat.le_of_ble_eq_true rfl) (by unfold reU heU stU; simp [*]) (by unfold boU stU; simp [*])
    | exact lf [⟨nSt, digL r.st⟩, ⟨nEt, r.t⟩] r.b (Nat.le_of_ble_eq_true rfl) (by unfold reU heU stU; simp [*]) (by unfold boU stU; simp [*])
    | exact lf [⟨nSt, digL r.st⟩, ⟨nCc, r.c⟩] [] (Nat.le_of_ble_eq_true rfl) (by unfold reU heU stU; simp [*]) (by unfold boU stU; simp [*])
    | exact lf [⟨nSt, digL r.st⟩, ⟨nCc, r.c⟩] r.b (Nat.le_of_ble_eq_true rfl) (by unfold reU heU stU; simp [*]) (by unfold boU stU; simp [*])
    | exact lf [⟨nSt, digL r.st⟩, ⟨nCc, r.c⟩, ⟨nEt, r.t⟩] [] (Nat.le_of_ble_eq_true rfl) (by unfold reU heU stU; simp [*]) (by unfold boU stU; simp [*])
    | exact lf [⟨nSt, digL r.st⟩, ⟨nCc, r.c⟩, ⟨nEt, r.t⟩] r.b (Nat.le_of_ble_eq_true rfl) (by unfold reU heU stU; simp [*]) (by unfold boU stU; simp [*])
end Go.Proofs.YtkjppedfedaenaaGreatDoor.cy
