/- The document's own reply of a rule to a talk. -/
import Derived.Test.YtkjppedfedaenaaGreatDoorSz9
import Derived.Test.YtkjppedfedaenaaGreatDoorRows
import Derived.Test.YtkjppedfedaenaaGreatDoorLcyC
set_option maxRecDepth 20000
set_option linter.unusedSimpArgs false
set_option linter.unusedVariables false
namespace Go.Proofs.YtkjppedfedaenaaGreatDoor.cy
open Go Go.Ev Go.Sy Go.RowKit Go.Proofs.YtkjppedfedaenaaGreatDoor.gl Go.Proofs.YtkjppedfedaenaaGreatDoor.tk Go.Proofs.YtkjppedfedaenaaGreatDoor.sn
structure GRr where
  L : List Fl
  X : List Fl
  F : List Fl
  b : List UInt8
def pRr : List Nat := [0, 1, 0, 1, 1, 1, 1, 1, 1, 1, 1, 1]
def slRr (g : GRr) (i : Nat) : List (Nat × Value) := [(7, .string (bs g.b)), (8, .slice (some ⟨2, 0, none⟩) g.L.length 2), (9, .slice (some ⟨3, 0, none⟩) i 3), (10, .int .i64 (i : Nat))]
def rlRr (g : GRr) (i : Nat) : List (Nat × Row) := [(0, gRo enF g.X), (1, gRo enF g.F), (2, gOwn enF g.L), (3, gOwn enR ((g.L.take i).map toR))]
def sl0Rr (g : GRr) : List (Nat × Value) := [(7, .string (bs g.b)), (8, .slice (some ⟨2, 0, none⟩) g.L.length 2), (9, .slice none 0 0), (10, .int .i64 0)]
def rl0Rr (g : GRr) : List (Nat × Row) := [(0, gRo enF g.X), (1, gRo enF g.F), (2, gOwn enF g.L)]
def wsRr (g : GRr) : List (Gate Unit) := [⟨.exit 0, fun _ => True, fun _ => [(7, .string (bs g.b)), (9, .slice (some ⟨3, 0, none⟩) g.L.length 3)], fun _ => [(0, gRo enF g.X), (1, gRo enF g.F), (3, gOwn enR (g.L.map toR))], 4⟩]
def specRr : Sy.Spec := specOf 2 3 74 (fun g : GRr => 0 < g.L.length ∧ g.L.length ≤ 1048580) sl0Rr rl0Rr wsRr
def mRr := mOf [(21, pRr, specRr)]
noncomputable def tRr : List EntM := [eVr, eDr]
noncomputable abbrev EtRr : Env := envT Tryz.prog tRr
theorem Rr_first (g : GRr) (Inv : Nat → Prop) (m : Nat → Nat) (j : Nat) : mev EtRr noM 60 21 (0 :: pRr) false (codeOf Tryz.prog 21 (0 :: pRr)) ⟨mkOv (sl0Rr g), 74, []⟩ none ⟨mkR (rl0Rr g), 3⟩ (roundK 2 4 74 Inv m (slRr g) (rlRr g) (wsRr g) j) =
  (br (decide ((0 : Int) < Int.ofNat (List.length g.1))) (br (decide ((0 : Int) <= (0 : Int) /\ (0 : Int) < (↑(List.length g.1) : Int))) ((Eq (α := Option Value) ((gC enF
  g.1)[0]?) (some (Value.string (cellS (gC enF g.1) 0)))) /\ ((Eq (α := Option Value) ((gC enF g.1)[1]?) (some (Value.string (cellS (gC enF g.1) 1)))) /\ (∃ j2 : Nat, ((Inv
  j2) /\ ((m j2 < m j) /\ ((bs g.4 = bs g.4) /\ ((0 = 0) /\ ((List.length g.1 = List.length g.1) /\ ((0 = 0) /\ ((j2 = 1) /\ (((↑j2 : Int) = (1 : Int)) /\ ((Eq (α := List
  Value) (gC enF g.2) (gC enF g.2)) /\ ((Plain (gC enF g.2)) /\ ((Eq (α := List Value) (gC enF g.3) (gC enF g.3)) /\ ((Plain (gC enF g.3)) /\ ((Eq (α := List Value) (gC enF
  g.1) (gC enF g.1)) /\ ((Plain (gC enF g.1)) /\ ((Eq (α := List Value) (gC enR (List.map toR (List.take j2 g.1))) ([Value.string (cellS (gC enF g.1) 0), Value.string (cellS
  (gC enF g.1) 1), Value.int IntKind.i64 (1 : Int)])) /\ ((Plain (gC enR (List.map toR (List.take j2 g.1)))) /\ True))))))))))))))))))) False) (∃ y : Unit, ((True) /\ ((bs
  g.4 = bs g.4) /\ ((List.length g.1 = 0) /\ ((Eq (α := List Value) (gC enF g.2) (gC enF g.2)) /\ ((Plain (gC enF g.2)) /\ ((Eq (α := List Value) (gC enF g.3) (gC enF g.3))
  /\ ((Plain (gC enF g.3)) /\ ((Eq (α := List Value) (gC enR (List.map toR g.1)) ([])) /\ True)))))))))) := by kernel_rfl
theorem Rr_round (g : GRr) (i : Nat) (Inv : Nat → Prop) (m : Nat → Nat) : mev EtRr noM 60 21 (0 :: pRr) false (codeOf Tryz.prog 21 (0 :: pRr)) ⟨mkOv (slRr g i), 74, []⟩ none ⟨mkR (rlRr g i), 4⟩ (roundK 2 4 74 Inv m (slRr g) (rlRr g) (wsRr g) i) =
  (br (decide ((↑i : Int) < Int.ofNat (List.length g.1))) (br (decide ((0 : Int) <= (↑i : Int) /\ (↑i : Int) < (↑(List.length g.1) : Int))) ((Eq (α := Option Value) ((gC enF
  g.1)[0 + Int.toNat (↑i : Int) * 2]?) (some (Value.string (cellS (gC enF g.1) (0 + Int.toNat (↑i : Int) * 2))))) /\ ((Eq (α := Option Value) ((gC enF g.1)[0 + Int.toNat (↑i
  : Int) * 2 + 1]?) (some (Value.string (cellS (gC enF g.1) (0 + Int.toNat (↑i : Int) * 2 + 1))))) /\ (br (decide (i + 1 <= 16777216)) (br (decide (0 + i * 3 <= List.length
  (gC enR (List.map toR (List.take i g.1))))) (∃ j : Nat, ((Inv j) /\ ((m j < m i) /\ ((bs g.4 = bs g.4) /\ ((0 = 0) /\ ((List.length g.1 = List.length g.1) /\ ((0 = 0) /\
  ((j = i + 1) /\ (((↑j : Int) = IntKind.wrap IntKind.i64 ((↑i : Int) + (1 : Int))) /\ ((Eq (α := List Value) (gC enF g.2) (gC enF g.2)) /\ ((Plain (gC enF g.2)) /\ ((Eq (α
  := List Value) (gC enF g.3) (gC enF g.3)) /\ ((Plain (gC enF g.3)) /\ ((Eq (α := List Value) (gC enF g.1) (gC enF g.1)) /\ ((Plain (gC enF g.1)) /\ ((Eq (α := List Value)
  (gC enR (List.map toR (List.take j g.1))) (List.take (i * 3) (List.drop 0 (gC enR (List.map toR (List.take i g.1)))) ++ [Value.string (cellS (gC enF g.1) (0 + Int.toNat
  (↑i : Int) * 2)), Value.string (cellS (gC enF g.1) (0 + Int.toNat (↑i : Int) * 2 + 1)), Value.int IntKind.i64 (1 : Int)])) /\ ((Plain (gC enR (List.map toR (List.take j
  g.1)))) /\ True))))))))))))))))) False) False))) False) (∃ y : Unit, ((True) /\ ((bs g.4 = bs g.4) /\ ((0 = 0) /\ ((List.length g.1 = i) /\ ((Eq (α := List Value) (gC enF
  g.2) (gC enF g.2)) /\ ((Plain (gC enF g.2)) /\ ((Eq (α := List Value) (gC enF g.3) (gC enF g.3)) /\ ((Plain (gC enF g.3)) /\ ((Eq (α := List Value) (gC enR (List.map toR
  g.1)) (gC enR (List.map toR (List.take i g.1)))) /\ ((Plain (gC enR (List.map toR g.1))) /\ True)))))))))))) := by kernel_rfl
theorem Rr_vc (r : Ru) (y : TkY) (X F : List Fl) (n : Nat) (v : ByteArray) (R : List Rw) : mcall EtRr mRr 60 21 [.agg ⟨ruC r 0 X.length⟩, .agg ⟨tkCy y 1 F.length⟩] ⟨mkR (nums 0 [gRo enF X, gRo enF F]), 2⟩ (retIs 2 (.tuple #[.slice (some ⟨2, 0, none⟩) n 3, .string v]) [gRo enF X, gRo enF F, gOwn enR R]) =
  ((Value.int IntKind.i64 r.1 = Value.int IntKind.i64 r.1) /\ ((Value.string (bs r.4) = Value.string (bs r.4)) /\ (br (!strEq (bs r.3) (ByteArray.mk #[])) (((((True /\ (True
  /\ (True /\ ((0 + List.length F * 2 <= List.length (gC enF F) /\ Plain (List.take (List.length F * 2) (List.drop 0 (gC enF F)))) /\ (True /\ (True /\ (True /\ (True /\
  (True /\ True))))))))) /\ (True /\ True)) /\ ((True /\ True) /\ (True /\ (IsF (Row.mk (List.take (List.length F * 2) (List.drop 0 (gC enF F))) true (Ob.cells true))
  (List.length F) /\ List.length F <= 9223372036854775807))))) /\ ((Value.string (bs r.3) = Value.string (bs r.3)) /\ ((Value.agg (Array.mk [Value.int IntKind.i64 y.1,
  Value.int IntKind.i64 y.2, Value.int IntKind.i64 y.3, Value.slice (some (Addr.mk 1 0 none)) (List.length F) 2, Value.string y.4, Value.bool y.5, Value.bool y.6, Value.int
  IntKind.i64 y.7, Value.int IntKind.i64 y.8]) = Value.agg (Array.mk [Value.int IntKind.i64 y.1, Value.int IntKind.i64 y.2, Value.int IntKind.i64 y.3, Value.slice (some
  (Addr.mk 1 0 none)) (List.length F) 2, Value.string y.4, Value.bool y.5, Value.bool y.6, Value.int IntKind.i64 y.7, Value.int IntKind.i64 y.8])) /\ ((Value.string (bs r.3)
  = Value.string (bs r.3)) /\ ((Value.string (bs r.3) = Value.string (bs r.3)) /\ (br (strEq (fsV (Row.mk (List.take (List.length F * 2) (List.drop 0 (gC enF F))) true
  (Ob.cells true)) (ByteArray.mk #[105, 102, 45, 110, 111, 110, 101, 45, 109, 97, 116, 99, 104])) (bs r.3)) (((((True /\ (True /\ (True /\ ((0 + List.length F * 2 <=
  List.length (gC enF F) /\ Plain (List.take (List.length F * 2) (List.drop 0 (gC enF F)))) /\ (True /\ (True /\ (True /\ (True /\ (True /\ True))))))))) /\ (True /\ True))
  /\ ((True /\ True) /\ (True /\ (IsF (Row.mk (List.take (List.length F * 2) (List.drop 0 (gC enF F))) true (Ob.cells true)) (List.length F) /\ List.length F <=
  9223372036854775807))))) /\ (br (strEq (fsV (Row.mk (List.take (List.length F * 2) (List.drop 0 (gC enF F))) true (Ob.cells true)) (ByteArray.mk #[58, 109, 101, 116, 104,
  111, 100])) (ByteArray.mk #[72, 69, 65, 68])) ((((True /\ True) /\ (True /\ (True /\ I64 (304 : Int))))) /\ (br (!strEq (bs r.2) (ByteArray.mk #[])) (br (!strEq (bs r.3)
  (ByteArray.mk #[])) (br (decide (0 + List.length X * 2 <= List.length (gC enF X))) (br (allOne (List.take (List.length X * 2) (List.drop 0 (gC enF X)))) (br (decide (3 +
  List.length X <= 16777216)) (∃ g : GRr, ((0 < List.length g.1 /\ List.length g.1 <= 1048580) /\ ((bs g.4 = ByteArray.mk #[]) /\ ((0 = 0) /\ ((List.length g.1 = 3 +
  List.length X) /\ (((0 : Int) = (0 : Int)) /\ ((Eq (α := List Value) (gC enF g.2) (gC enF X)) /\ ((Plain (gC enF g.2)) /\ ((Eq (α := List Value) (gC enF g.3) (gC enF F))
  /\ ((Plain (gC enF g.3)) /\ ((Eq (α := List Value) (gC enF g.1) (Value.string (ByteArray.mk #[58, 115, 116, 97, 116, 117, 115]) :: Value.string (digZ (304 : Int)) ::
  Value.string (ByteArray.mk #[99, 97, 99, 104, 101, 45, 99, 111, 110, 116, 114, 111, 108]) :: Value.string (bs r.2) :: Value.string (ByteArray.mk #[101, 116, 97, 103]) ::
  Value.string (bs r.3) :: ([] ++ List.take (List.length X * 2) (List.drop 0 (gC enF X))))) /\ ((Plain (gC enF g.1)) /\ (∀ (y2 : Unit), ((True) → ((0 = 0) /\ ((n =
  List.length g.1) /\ ((v = bs g.4) /\ ((Eq (α := List Value) (gC enF X) (gC enF g.2)) /\ ((Plain (gC enF X)) /\ ((Eq (α := List Value) (gC enF F) (gC enF g.3)) /\ ((Plain
  (gC enF F)) /\ ((Eq (α := List Value) (gC enR R) (gC enR (List.map toR g.1))) /\ ((Plain (gC enR R)) /\ True))))))))))))))))))))))) False) False) False) (br (decide (0 +
  List.length X * 2 <= List.length (gC enF X))) (br (allOne (List.take (List.length X * 2) (List.drop 0 (gC enF X)))) (br (decide (2 + List.length X <= 16777216)) (∃ g :
  GRr, ((0 < List.length g.1 /\ List.length g.1 <= 1048580) /\ ((bs g.4 = ByteArray.mk #[]) /\ ((0 = 0) /\ ((List.length g.1 = 2 + List.length X) /\ (((0 : Int) = (0 : Int))
  /\ ((Eq (α := List Value) (gC enF g.2) (gC enF X)) /\ ((Plain (gC enF g.2)) /\ ((Eq (α := List Value) (gC enF g.3) (gC enF F)) /\ ((Plain (gC enF g.3)) /\ ((Eq (α := List
  Value) (gC enF g.1) (Value.string (ByteArray.mk #[58, 115, 116, 97, 116, 117, 115]) :: Value.string (digZ (304 : Int)) :: Value.string (ByteArray.mk #[99, 97, 99, 104,
  101, 45, 99, 111, 110, 116, 114, 111, 108]) :: Value.string (bs r.2) :: ([] ++ List.take (List.length X * 2) (List.drop 0 (gC enF X))))) /\ ((Plain (gC enF g.1)) /\ (∀ (y2
  : Unit), ((True) → ((0 = 0) /\ ((n = List.length g.1) /\ ((v = bs g.4) /\ ((Eq (α := List Value) (gC enF X) (gC enF g.2)) /\ ((Plain (gC enF X)) /\ ((Eq (α := List Value)
  (gC enF F) (gC enF g.3)) /\ ((Plain (gC enF F)) /\ ((Eq (α := List Value) (gC enR R) (gC enR (List.map toR g.1))) /\ ((Plain (gC enR R)) /\ True)))))))))))))))))))))))
  False) False) False)) (br (!strEq (bs r.3) (ByteArray.mk #[])) (br (decide (0 + List.length X * 2 <= List.length (gC enF X))) (br (allOne (List.take (List.length X * 2)
  (List.drop 0 (gC enF X)))) (br (decide (2 + List.length X <= 16777216)) (∃ g : GRr, ((0 < List.length g.1 /\ List.length g.1 <= 1048580) /\ ((bs g.4 = ByteArray.mk #[]) /\
  ((0 = 0) /\ ((List.length g.1 = 2 + List.length X) /\ (((0 : Int) = (0 : Int)) /\ ((Eq (α := List Value) (gC enF g.2) (gC enF X)) /\ ((Plain (gC enF g.2)) /\ ((Eq (α :=
  List Value) (gC enF g.3) (gC enF F)) /\ ((Plain (gC enF g.3)) /\ ((Eq (α := List Value) (gC enF g.1) (Value.string (ByteArray.mk #[58, 115, 116, 97, 116, 117, 115]) ::
  Value.string (digZ (304 : Int)) :: Value.string (ByteArray.mk #[101, 116, 97, 103]) :: Value.string (bs r.3) :: ([] ++ List.take (List.length X * 2) (List.drop 0 (gC enF
  X))))) /\ ((Plain (gC enF g.1)) /\ (∀ (y2 : Unit), ((True) → ((0 = 0) /\ ((n = List.length g.1) /\ ((v = bs g.4) /\ ((Eq (α := List Value) (gC enF X) (gC enF g.2)) /\
  ((Plain (gC enF X)) /\ ((Eq (α := List Value) (gC enF F) (gC enF g.3)) /\ ((Plain (gC enF F)) /\ ((Eq (α := List Value) (gC enR R) (gC enR (List.map toR g.1))) /\ ((Plain
  (gC enR R)) /\ True))))))))))))))))))))))) False) False) False) (br (decide (0 + List.length X * 2 <= List.length (gC enF X))) (br (allOne (List.take (List.length X * 2)
  (List.drop 0 (gC enF X)))) (br (decide (1 + List.length X <= 16777216)) (∃ g : GRr, ((0 < List.length g.1 /\ List.length g.1 <= 1048580) /\ ((bs g.4 = ByteArray.mk #[]) /\
  ((0 = 0) /\ ((List.length g.1 = 1 + List.length X) /\ (((0 : Int) = (0 : Int)) /\ ((Eq (α := List Value) (gC enF g.2) (gC enF X)) /\ ((Plain (gC enF g.2)) /\ ((Eq (α :=
  List Value) (gC enF g.3) (gC enF F)) /\ ((Plain (gC enF g.3)) /\ ((Eq (α := List Value) (gC enF g.1) (Value.string (ByteArray.mk #[58, 115, 116, 97, 116, 117, 115]) ::
  Value.string (digZ (304 : Int)) :: ([] ++ List.take (List.length X * 2) (List.drop 0 (gC enF X))))) /\ ((Plain (gC enF g.1)) /\ (∀ (y2 : Unit), ((True) → ((0 = 0) /\ ((n =
  List.length g.1) /\ ((v = bs g.4) /\ ((Eq (α := List Value) (gC enF X) (gC enF g.2)) /\ ((Plain (gC enF X)) /\ ((Eq (α := List Value) (gC enF F) (gC enF g.3)) /\ ((Plain
  (gC enF F)) /\ ((Eq (α := List Value) (gC enR R) (gC enR (List.map toR g.1))) /\ ((Plain (gC enR R)) /\ True))))))))))))))))))))))) False) False) False)))) ((((True /\
  True) /\ (True /\ (True /\ I64 (304 : Int))))) /\ (br (!strEq (bs r.2) (ByteArray.mk #[])) (br (!strEq (bs r.3) (ByteArray.mk #[])) (br (decide (0 + List.length X * 2 <=
  List.length (gC enF X))) (br (allOne (List.take (List.length X * 2) (List.drop 0 (gC enF X)))) (br (decide (3 + List.length X <= 16777216)) (∃ g : GRr, ((0 < List.length
  g.1 /\ List.length g.1 <= 1048580) /\ ((bs g.4 = ByteArray.mk #[]) /\ ((0 = 0) /\ ((List.length g.1 = 3 + List.length X) /\ (((0 : Int) = (0 : Int)) /\ ((Eq (α := List
  Value) (gC enF g.2) (gC enF X)) /\ ((Plain (gC enF g.2)) /\ ((Eq (α := List Value) (gC enF g.3) (gC enF F)) /\ ((Plain (gC enF g.3)) /\ ((Eq (α := List Value) (gC enF g.1)
  (Value.string (ByteArray.mk #[58, 115, 116, 97, 116, 117, 115]) :: Value.string (digZ (304 : Int)) :: Value.string (ByteArray.mk #[99, 97, 99, 104, 101, 45, 99, 111, 110,
  116, 114, 111, 108]) :: Value.string (bs r.2) :: Value.string (ByteArray.mk #[101, 116, 97, 103]) :: Value.string (bs r.3) :: ([] ++ List.take (List.length X * 2)
  (List.drop 0 (gC enF X))))) /\ ((Plain (gC enF g.1)) /\ (∀ (y2 : Unit), ((True) → ((0 = 0) /\ ((n = List.length g.1) /\ ((v = bs g.4) /\ ((Eq (α := List Value) (gC enF X)
  (gC enF g.2)) /\ ((Plain (gC enF X)) /\ ((Eq (α := List Value) (gC enF F) (gC enF g.3)) /\ ((Plain (gC enF F)) /\ ((Eq (α := List Value) (gC enR R) (gC enR (List.map toR
  g.1))) /\ ((Plain (gC enR R)) /\ True))))))))))))))))))))))) False) False) False) (br (decide (0 + List.length X * 2 <= List.length (gC enF X))) (br (allOne (List.take
  (List.length X * 2) (List.drop 0 (gC enF X)))) (br (decide (2 + List.length X <= 16777216)) (∃ g : GRr, ((0 < List.length g.1 /\ List.length g.1 <= 1048580) /\ ((bs g.4 =
  ByteArray.mk #[]) /\ ((0 = 0) /\ ((List.length g.1 = 2 + List.length X) /\ (((0 : Int) = (0 : Int)) /\ ((Eq (α := List Value) (gC enF g.2) (gC enF X)) /\ ((Plain (gC enF
  g.2)) /\ ((Eq (α := List Value) (gC enF g.3) (gC enF F)) /\ ((Plain (gC enF g.3)) /\ ((Eq (α := List Value) (gC enF g.1) (Value.string (ByteArray.mk #[58, 115, 116, 97,
  116, 117, 115]) :: Value.string (digZ (304 : Int)) :: Value.string (ByteArray.mk #[99, 97, 99, 104, 101, 45, 99, 111, 110, 116, 114, 111, 108]) :: Value.string (bs r.2) ::
  ([] ++ List.take (List.length X * 2) (List.drop 0 (gC enF X))))) /\ ((Plain (gC enF g.1)) /\ (∀ (y2 : Unit), ((True) → ((0 = 0) /\ ((n = List.length g.1) /\ ((v = bs g.4)
  /\ ((Eq (α := List Value) (gC enF X) (gC enF g.2)) /\ ((Plain (gC enF X)) /\ ((Eq (α := List Value) (gC enF F) (gC enF g.3)) /\ ((Plain (gC enF F)) /\ ((Eq (α := List
  Value) (gC enR R) (gC enR (List.map toR g.1))) /\ ((Plain (gC enR R)) /\ True))))))))))))))))))))))) False) False) False)) (br (!strEq (bs r.3) (ByteArray.mk #[])) (br
  (decide (0 + List.length X * 2 <= List.length (gC enF X))) (br (allOne (List.take (List.length X * 2) (List.drop 0 (gC enF X)))) (br (decide (2 + List.length X <=
  16777216)) (∃ g : GRr, ((0 < List.length g.1 /\ List.length g.1 <= 1048580) /\ ((bs g.4 = ByteArray.mk #[]) /\ ((0 = 0) /\ ((List.length g.1 = 2 + List.length X) /\ (((0 :
  Int) = (0 : Int)) /\ ((Eq (α := List Value) (gC enF g.2) (gC enF X)) /\ ((Plain (gC enF g.2)) /\ ((Eq (α := List Value) (gC enF g.3) (gC enF F)) /\ ((Plain (gC enF g.3))
  /\ ((Eq (α := List Value) (gC enF g.1) (Value.string (ByteArray.mk #[58, 115, 116, 97, 116, 117, 115]) :: Value.string (digZ (304 : Int)) :: Value.string (ByteArray.mk
  #[101, 116, 97, 103]) :: Value.string (bs r.3) :: ([] ++ List.take (List.length X * 2) (List.drop 0 (gC enF X))))) /\ ((Plain (gC enF g.1)) /\ (∀ (y2 : Unit), ((True) →
  ((0 = 0) /\ ((n = List.length g.1) /\ ((v = bs g.4) /\ ((Eq (α := List Value) (gC enF X) (gC enF g.2)) /\ ((Plain (gC enF X)) /\ ((Eq (α := List Value) (gC enF F) (gC enF
  g.3)) /\ ((Plain (gC enF F)) /\ ((Eq (α := List Value) (gC enR R) (gC enR (List.map toR g.1))) /\ ((Plain (gC enR R)) /\ True))))))))))))))))))))))) False) False) False)
  (br (decide (0 + List.length X * 2 <= List.length (gC enF X))) (br (allOne (List.take (List.length X * 2) (List.drop 0 (gC enF X)))) (br (decide (1 + List.length X <=
  16777216)) (∃ g : GRr, ((0 < List.length g.1 /\ List.length g.1 <= 1048580) /\ ((bs g.4 = ByteArray.mk #[]) /\ ((0 = 0) /\ ((List.length g.1 = 1 + List.length X) /\ (((0 :
  Int) = (0 : Int)) /\ ((Eq (α := List Value) (gC enF g.2) (gC enF X)) /\ ((Plain (gC enF g.2)) /\ ((Eq (α := List Value) (gC enF g.3) (gC enF F)) /\ ((Plain (gC enF g.3))
  /\ ((Eq (α := List Value) (gC enF g.1) (Value.string (ByteArray.mk #[58, 115, 116, 97, 116, 117, 115]) :: Value.string (digZ (304 : Int)) :: ([] ++ List.take (List.length
  X * 2) (List.drop 0 (gC enF X))))) /\ ((Plain (gC enF g.1)) /\ (∀ (y2 : Unit), ((True) → ((0 = 0) /\ ((n = List.length g.1) /\ ((v = bs g.4) /\ ((Eq (α := List Value) (gC
  enF X) (gC enF g.2)) /\ ((Plain (gC enF X)) /\ ((Eq (α := List Value) (gC enF F) (gC enF g.3)) /\ ((Plain (gC enF F)) /\ ((Eq (α := List Value) (gC enR R) (gC enR
  (List.map toR g.1))) /\ ((Plain (gC enR R)) /\ True))))))))))))))))))))))) False) False) False)))))) (((((True /\ (True /\ (True /\ ((0 + List.length F * 2 <= List.length
  (gC enF F) /\ Plain (List.take (List.length F * 2) (List.drop 0 (gC enF F)))) /\ (True /\ (True /\ (True /\ (True /\ (True /\ True))))))))) /\ (True /\ True)) /\ ((True /\
  True) /\ (True /\ (IsF (Row.mk (List.take (List.length F * 2) (List.drop 0 (gC enF F))) true (Ob.cells true)) (List.length F) /\ List.length F <= 9223372036854775807)))))
  /\ (br (strEq (fsV (Row.mk (List.take (List.length F * 2) (List.drop 0 (gC enF F))) true (Ob.cells true)) (ByteArray.mk #[58, 109, 101, 116, 104, 111, 100])) (ByteArray.mk
  #[72, 69, 65, 68])) ((((True /\ True) /\ (True /\ (True /\ I64 r.1)))) /\ (br (!strEq (bs r.2) (ByteArray.mk #[])) (br (!strEq (bs r.3) (ByteArray.mk #[])) (br (decide (0
  + List.length X * 2 <= List.length (gC enF X))) (br (allOne (List.take (List.length X * 2) (List.drop 0 (gC enF X)))) (br (decide (3 + List.length X <= 16777216)) (∃ g :
  GRr, ((0 < List.length g.1 /\ List.length g.1 <= 1048580) /\ ((bs g.4 = ByteArray.mk #[]) /\ ((0 = 0) /\ ((List.length g.1 = 3 + List.length X) /\ (((0 : Int) = (0 : Int))
  /\ ((Eq (α := List Value) (gC enF g.2) (gC enF X)) /\ ((Plain (gC enF g.2)) /\ ((Eq (α := List Value) (gC enF g.3) (gC enF F)) /\ ((Plain (gC enF g.3)) /\ ((Eq (α := List
  Value) (gC enF g.1) (Value.string (ByteArray.mk #[58, 115, 116, 97, 116, 117, 115]) :: Value.string (digZ r.1) :: Value.string (ByteArray.mk #[99, 97, 99, 104, 101, 45,
  99, 111, 110, 116, 114, 111, 108]) :: Value.string (bs r.2) :: Value.string (ByteArray.mk #[101, 116, 97, 103]) :: Value.string (bs r.3) :: ([] ++ List.take (List.length X
  * 2) (List.drop 0 (gC enF X))))) /\ ((Plain (gC enF g.1)) /\ (∀ (y2 : Unit), ((True) → ((0 = 0) /\ ((n = List.length g.1) /\ ((v = bs g.4) /\ ((Eq (α := List Value) (gC
  enF X) (gC enF g.2)) /\ ((Plain (gC enF X)) /\ ((Eq (α := List Value) (gC enF F) (gC enF g.3)) /\ ((Plain (gC enF F)) /\ ((Eq (α := List Value) (gC enR R) (gC enR
  (List.map toR g.1))) /\ ((Plain (gC enR R)) /\ True))))))))))))))))))))))) False) False) False) (br (decide (0 + List.length X * 2 <= List.length (gC enF X))) (br (allOne
  (List.take (List.length X * 2) (List.drop 0 (gC enF X)))) (br (decide (2 + List.length X <= 16777216)) (∃ g : GRr, ((0 < List.length g.1 /\ List.length g.1 <= 1048580) /\
  ((bs g.4 = ByteArray.mk #[]) /\ ((0 = 0) /\ ((List.length g.1 = 2 + List.length X) /\ (((0 : Int) = (0 : Int)) /\ ((Eq (α := List Value) (gC enF g.2) (gC enF X)) /\
  ((Plain (gC enF g.2)) /\ ((Eq (α := List Value) (gC enF g.3) (gC enF F)) /\ ((Plain (gC enF g.3)) /\ ((Eq (α := List Value) (gC enF g.1) (Value.string (ByteArray.mk #[58,
  115, 116, 97, 116, 117, 115]) :: Value.string (digZ r.1) :: Value.string (ByteArray.mk #[99, 97, 99, 104, 101, 45, 99, 111, 110, 116, 114, 111, 108]) :: Value.string (bs
  r.2) :: ([] ++ List.take (List.length X * 2) (List.drop 0 (gC enF X))))) /\ ((Plain (gC enF g.1)) /\ (∀ (y2 : Unit), ((True) → ((0 = 0) /\ ((n = List.length g.1) /\ ((v =
  bs g.4) /\ ((Eq (α := List Value) (gC enF X) (gC enF g.2)) /\ ((Plain (gC enF X)) /\ ((Eq (α := List Value) (gC enF F) (gC enF g.3)) /\ ((Plain (gC enF F)) /\ ((Eq (α :=
  List Value) (gC enR R) (gC enR (List.map toR g.1))) /\ ((Plain (gC enR R)) /\ True))))))))))))))))))))))) False) False) False)) (br (!strEq (bs r.3) (ByteArray.mk #[]))
  (br (decide (0 + List.length X * 2 <= List.length (gC enF X))) (br (allOne (List.take (List.length X * 2) (List.drop 0 (gC enF X)))) (br (decide (2 + List.length X <=
  16777216)) (∃ g : GRr, ((0 < List.length g.1 /\ List.length g.1 <= 1048580) /\ ((bs g.4 = ByteArray.mk #[]) /\ ((0 = 0) /\ ((List.length g.1 = 2 + List.length X) /\ (((0 :
  Int) = (0 : Int)) /\ ((Eq (α := List Value) (gC enF g.2) (gC enF X)) /\ ((Plain (gC enF g.2)) /\ ((Eq (α := List Value) (gC enF g.3) (gC enF F)) /\ ((Plain (gC enF g.3))
  /\ ((Eq (α := List Value) (gC enF g.1) (Value.string (ByteArray.mk #[58, 115, 116, 97, 116, 117, 115]) :: Value.string (digZ r.1) :: Value.string (ByteArray.mk #[101, 116,
  97, 103]) :: Value.string (bs r.3) :: ([] ++ List.take (List.length X * 2) (List.drop 0 (gC enF X))))) /\ ((Plain (gC enF g.1)) /\ (∀ (y2 : Unit), ((True) → ((0 = 0) /\
  ((n = List.length g.1) /\ ((v = bs g.4) /\ ((Eq (α := List Value) (gC enF X) (gC enF g.2)) /\ ((Plain (gC enF X)) /\ ((Eq (α := List Value) (gC enF F) (gC enF g.3)) /\
  ((Plain (gC enF F)) /\ ((Eq (α := List Value) (gC enR R) (gC enR (List.map toR g.1))) /\ ((Plain (gC enR R)) /\ True))))))))))))))))))))))) False) False) False) (br
  (decide (0 + List.length X * 2 <= List.length (gC enF X))) (br (allOne (List.take (List.length X * 2) (List.drop 0 (gC enF X)))) (br (decide (1 + List.length X <=
  16777216)) (∃ g : GRr, ((0 < List.length g.1 /\ List.length g.1 <= 1048580) /\ ((bs g.4 = ByteArray.mk #[]) /\ ((0 = 0) /\ ((List.length g.1 = 1 + List.length X) /\ (((0 :
  Int) = (0 : Int)) /\ ((Eq (α := List Value) (gC enF g.2) (gC enF X)) /\ ((Plain (gC enF g.2)) /\ ((Eq (α := List Value) (gC enF g.3) (gC enF F)) /\ ((Plain (gC enF g.3))
  /\ ((Eq (α := List Value) (gC enF g.1) (Value.string (ByteArray.mk #[58, 115, 116, 97, 116, 117, 115]) :: Value.string (digZ r.1) :: ([] ++ List.take (List.length X * 2)
  (List.drop 0 (gC enF X))))) /\ ((Plain (gC enF g.1)) /\ (∀ (y2 : Unit), ((True) → ((0 = 0) /\ ((n = List.length g.1) /\ ((v = bs g.4) /\ ((Eq (α := List Value) (gC enF X)
  (gC enF g.2)) /\ ((Plain (gC enF X)) /\ ((Eq (α := List Value) (gC enF F) (gC enF g.3)) /\ ((Plain (gC enF F)) /\ ((Eq (α := List Value) (gC enR R) (gC enR (List.map toR
  g.1))) /\ ((Plain (gC enR R)) /\ True))))))))))))))))))))))) False) False) False)))) (br (r.1 == (204 : Int)) ((((True /\ True) /\ (True /\ (True /\ I64 r.1)))) /\ (br
  (!strEq (bs r.2) (ByteArray.mk #[])) (br (!strEq (bs r.3) (ByteArray.mk #[])) (br (decide (0 + List.length X * 2 <= List.length (gC enF X))) (br (allOne (List.take
  (List.length X * 2) (List.drop 0 (gC enF X)))) (br (decide (3 + List.length X <= 16777216)) (∃ g : GRr, ((0 < List.length g.1 /\ List.length g.1 <= 1048580) /\ ((bs g.4 =
  ByteArray.mk #[]) /\ ((0 = 0) /\ ((List.length g.1 = 3 + List.length X) /\ (((0 : Int) = (0 : Int)) /\ ((Eq (α := List Value) (gC enF g.2) (gC enF X)) /\ ((Plain (gC enF
  g.2)) /\ ((Eq (α := List Value) (gC enF g.3) (gC enF F)) /\ ((Plain (gC enF g.3)) /\ ((Eq (α := List Value) (gC enF g.1) (Value.string (ByteArray.mk #[58, 115, 116, 97,
  116, 117, 115]) :: Value.string (digZ r.1) :: Value.string (ByteArray.mk #[99, 97, 99, 104, 101, 45, 99, 111, 110, 116, 114, 111, 108]) :: Value.string (bs r.2) ::
  Value.string (ByteArray.mk #[101, 116, 97, 103]) :: Value.string (bs r.3) :: ([] ++ List.take (List.length X * 2) (List.drop 0 (gC enF X))))) /\ ((Plain (gC enF g.1)) /\
  (∀ (y2 : Unit), ((True) → ((0 = 0) /\ ((n = List.length g.1) /\ ((v = bs g.4) /\ ((Eq (α := List Value) (gC enF X) (gC enF g.2)) /\ ((Plain (gC enF X)) /\ ((Eq (α := List
  Value) (gC enF F) (gC enF g.3)) /\ ((Plain (gC enF F)) /\ ((Eq (α := List Value) (gC enR R) (gC enR (List.map toR g.1))) /\ ((Plain (gC enR R)) /\
  True))))))))))))))))))))))) False) False) False) (br (decide (0 + List.length X * 2 <= List.length (gC enF X))) (br (allOne (List.take (List.length X * 2) (List.drop 0 (gC
  enF X)))) (br (decide (2 + List.length X <= 16777216)) (∃ g : GRr, ((0 < List.length g.1 /\ List.length g.1 <= 1048580) /\ ((bs g.4 = ByteArray.mk #[]) /\ ((0 = 0) /\
  ((List.length g.1 = 2 + List.length X) /\ (((0 : Int) = (0 : Int)) /\ ((Eq (α := List Value) (gC enF g.2) (gC enF X)) /\ ((Plain (gC enF g.2)) /\ ((Eq (α := List Value)
  (gC enF g.3) (gC enF F)) /\ ((Plain (gC enF g.3)) /\ ((Eq (α := List Value) (gC enF g.1) (Value.string (ByteArray.mk #[58, 115, 116, 97, 116, 117, 115]) :: Value.string
  (digZ r.1) :: Value.string (ByteArray.mk #[99, 97, 99, 104, 101, 45, 99, 111, 110, 116, 114, 111, 108]) :: Value.string (bs r.2) :: ([] ++ List.take (List.length X * 2)
  (List.drop 0 (gC enF X))))) /\ ((Plain (gC enF g.1)) /\ (∀ (y2 : Unit), ((True) → ((0 = 0) /\ ((n = List.length g.1) /\ ((v = bs g.4) /\ ((Eq (α := List Value) (gC enF X)
  (gC enF g.2)) /\ ((Plain (gC enF X)) /\ ((Eq (α := List Value) (gC enF F) (gC enF g.3)) /\ ((Plain (gC enF F)) /\ ((Eq (α := List Value) (gC enR R) (gC enR (List.map toR
  g.1))) /\ ((Plain (gC enR R)) /\ True))))))))))))))))))))))) False) False) False)) (br (!strEq (bs r.3) (ByteArray.mk #[])) (br (decide (0 + List.length X * 2 <=
  List.length (gC enF X))) (br (allOne (List.take (List.length X * 2) (List.drop 0 (gC enF X)))) (br (decide (2 + List.length X <= 16777216)) (∃ g : GRr, ((0 < List.length
  g.1 /\ List.length g.1 <= 1048580) /\ ((bs g.4 = ByteArray.mk #[]) /\ ((0 = 0) /\ ((List.length g.1 = 2 + List.length X) /\ (((0 : Int) = (0 : Int)) /\ ((Eq (α := List
  Value) (gC enF g.2) (gC enF X)) /\ ((Plain (gC enF g.2)) /\ ((Eq (α := List Value) (gC enF g.3) (gC enF F)) /\ ((Plain (gC enF g.3)) /\ ((Eq (α := List Value) (gC enF g.1)
  (Value.string (ByteArray.mk #[58, 115, 116, 97, 116, 117, 115]) :: Value.string (digZ r.1) :: Value.string (ByteArray.mk #[101, 116, 97, 103]) :: Value.string (bs r.3) ::
  ([] ++ List.take (List.length X * 2) (List.drop 0 (gC enF X))))) /\ ((Plain (gC enF g.1)) /\ (∀ (y2 : Unit), ((True) → ((0 = 0) /\ ((n = List.length g.1) /\ ((v = bs g.4)
  /\ ((Eq (α := List Value) (gC enF X) (gC enF g.2)) /\ ((Plain (gC enF X)) /\ ((Eq (α := List Value) (gC enF F) (gC enF g.3)) /\ ((Plain (gC enF F)) /\ ((Eq (α := List
  Value) (gC enR R) (gC enR (List.map toR g.1))) /\ ((Plain (gC enR R)) /\ True))))))))))))))))))))))) False) False) False) (br (decide (0 + List.length X * 2 <= List.length
  (gC enF X))) (br (allOne (List.take (List.length X * 2) (List.drop 0 (gC enF X)))) (br (decide (1 + List.length X <= 16777216)) (∃ g : GRr, ((0 < List.length g.1 /\
  List.length g.1 <= 1048580) /\ ((bs g.4 = ByteArray.mk #[]) /\ ((0 = 0) /\ ((List.length g.1 = 1 + List.length X) /\ (((0 : Int) = (0 : Int)) /\ ((Eq (α := List Value) (gC
  enF g.2) (gC enF X)) /\ ((Plain (gC enF g.2)) /\ ((Eq (α := List Value) (gC enF g.3) (gC enF F)) /\ ((Plain (gC enF g.3)) /\ ((Eq (α := List Value) (gC enF g.1)
  (Value.string (ByteArray.mk #[58, 115, 116, 97, 116, 117, 115]) :: Value.string (digZ r.1) :: ([] ++ List.take (List.length X * 2) (List.drop 0 (gC enF X))))) /\ ((Plain
  (gC enF g.1)) /\ (∀ (y2 : Unit), ((True) → ((0 = 0) /\ ((n = List.length g.1) /\ ((v = bs g.4) /\ ((Eq (α := List Value) (gC enF X) (gC enF g.2)) /\ ((Plain (gC enF X)) /\
  ((Eq (α := List Value) (gC enF F) (gC enF g.3)) /\ ((Plain (gC enF F)) /\ ((Eq (α := List Value) (gC enR R) (gC enR (List.map toR g.1))) /\ ((Plain (gC enR R)) /\
  True))))))))))))))))))))))) False) False) False)))) ((((True /\ True) /\ (True /\ (True /\ I64 r.1)))) /\ (br (!strEq (bs r.2) (ByteArray.mk #[])) (br (!strEq (bs r.3)
  (ByteArray.mk #[])) (br (decide (0 + List.length X * 2 <= List.length (gC enF X))) (br (allOne (List.take (List.length X * 2) (List.drop 0 (gC enF X)))) (br (decide (3 +
  List.length X <= 16777216)) (∃ g : GRr, ((0 < List.length g.1 /\ List.length g.1 <= 1048580) /\ ((bs g.4 = bs r.4) /\ ((0 = 0) /\ ((List.length g.1 = 3 + List.length X) /\
  (((0 : Int) = (0 : Int)) /\ ((Eq (α := List Value) (gC enF g.2) (gC enF X)) /\ ((Plain (gC enF g.2)) /\ ((Eq (α := List Value) (gC enF g.3) (gC enF F)) /\ ((Plain (gC enF
  g.3)) /\ ((Eq (α := List Value) (gC enF g.1) (Value.string (ByteArray.mk #[58, 115, 116, 97, 116, 117, 115]) :: Value.string (digZ r.1) :: Value.string (ByteArray.mk #[99,
  97, 99, 104, 101, 45, 99, 111, 110, 116, 114, 111, 108]) :: Value.string (bs r.2) :: Value.string (ByteArray.mk #[101, 116, 97, 103]) :: Value.string (bs r.3) :: ([] ++
  List.take (List.length X * 2) (List.drop 0 (gC enF X))))) /\ ((Plain (gC enF g.1)) /\ (∀ (y2 : Unit), ((True) → ((0 = 0) /\ ((n = List.length g.1) /\ ((v = bs g.4) /\ ((Eq
  (α := List Value) (gC enF X) (gC enF g.2)) /\ ((Plain (gC enF X)) /\ ((Eq (α := List Value) (gC enF F) (gC enF g.3)) /\ ((Plain (gC enF F)) /\ ((Eq (α := List Value) (gC
  enR R) (gC enR (List.map toR g.1))) /\ ((Plain (gC enR R)) /\ True))))))))))))))))))))))) False) False) False) (br (decide (0 + List.length X * 2 <= List.length (gC enF
  X))) (br (allOne (List.take (List.length X * 2) (List.drop 0 (gC enF X)))) (br (decide (2 + List.length X <= 16777216)) (∃ g : GRr, ((0 < List.length g.1 /\ List.length
  g.1 <= 1048580) /\ ((bs g.4 = bs r.4) /\ ((0 = 0) /\ ((List.length g.1 = 2 + List.length X) /\ (((0 : Int) = (0 : Int)) /\ ((Eq (α := List Value) (gC enF g.2) (gC enF X))
  /\ ((Plain (gC enF g.2)) /\ ((Eq (α := List Value) (gC enF g.3) (gC enF F)) /\ ((Plain (gC enF g.3)) /\ ((Eq (α := List Value) (gC enF g.1) (Value.string (ByteArray.mk
  #[58, 115, 116, 97, 116, 117, 115]) :: Value.string (digZ r.1) :: Value.string (ByteArray.mk #[99, 97, 99, 104, 101, 45, 99, 111, 110, 116, 114, 111, 108]) :: Value.string
  (bs r.2) :: ([] ++ List.take (List.length X * 2) (List.drop 0 (gC enF X))))) /\ ((Plain (gC enF g.1)) /\ (∀ (y2 : Unit), ((True) → ((0 = 0) /\ ((n = List.length g.1) /\
  ((v = bs g.4) /\ ((Eq (α := List Value) (gC enF X) (gC enF g.2)) /\ ((Plain (gC enF X)) /\ ((Eq (α := List Value) (gC enF F) (gC enF g.3)) /\ ((Plain (gC enF F)) /\ ((Eq
  (α := List Value) (gC enR R) (gC enR (List.map toR g.1))) /\ ((Plain (gC enR R)) /\ True))))))))))))))))))))))) False) False) False)) (br (!strEq (bs r.3) (ByteArray.mk
  #[])) (br (decide (0 + List.length X * 2 <= List.length (gC enF X))) (br (allOne (List.take (List.length X * 2) (List.drop 0 (gC enF X)))) (br (decide (2 + List.length X
  <= 16777216)) (∃ g : GRr, ((0 < List.length g.1 /\ List.length g.1 <= 1048580) /\ ((bs g.4 = bs r.4) /\ ((0 = 0) /\ ((List.length g.1 = 2 + List.length X) /\ (((0 : Int) =
  (0 : Int)) /\ ((Eq (α := List Value) (gC enF g.2) (gC enF X)) /\ ((Plain (gC enF g.2)) /\ ((Eq (α := List Value) (gC enF g.3) (gC enF F)) /\ ((Plain (gC enF g.3)) /\ ((Eq
  (α := List Value) (gC enF g.1) (Value.string (ByteArray.mk #[58, 115, 116, 97, 116, 117, 115]) :: Value.string (digZ r.1) :: Value.string (ByteArray.mk #[101, 116, 97,
  103]) :: Value.string (bs r.3) :: ([] ++ List.take (List.length X * 2) (List.drop 0 (gC enF X))))) /\ ((Plain (gC enF g.1)) /\ (∀ (y2 : Unit), ((True) → ((0 = 0) /\ ((n =
  List.length g.1) /\ ((v = bs g.4) /\ ((Eq (α := List Value) (gC enF X) (gC enF g.2)) /\ ((Plain (gC enF X)) /\ ((Eq (α := List Value) (gC enF F) (gC enF g.3)) /\ ((Plain
  (gC enF F)) /\ ((Eq (α := List Value) (gC enR R) (gC enR (List.map toR g.1))) /\ ((Plain (gC enR R)) /\ True))))))))))))))))))))))) False) False) False) (br (decide (0 +
  List.length X * 2 <= List.length (gC enF X))) (br (allOne (List.take (List.length X * 2) (List.drop 0 (gC enF X)))) (br (decide (1 + List.length X <= 16777216)) (∃ g :
  GRr, ((0 < List.length g.1 /\ List.length g.1 <= 1048580) /\ ((bs g.4 = bs r.4) /\ ((0 = 0) /\ ((List.length g.1 = 1 + List.length X) /\ (((0 : Int) = (0 : Int)) /\ ((Eq
  (α := List Value) (gC enF g.2) (gC enF X)) /\ ((Plain (gC enF g.2)) /\ ((Eq (α := List Value) (gC enF g.3) (gC enF F)) /\ ((Plain (gC enF g.3)) /\ ((Eq (α := List Value)
  (gC enF g.1) (Value.string (ByteArray.mk #[58, 115, 116, 97, 116, 117, 115]) :: Value.string (digZ r.1) :: ([] ++ List.take (List.length X * 2) (List.drop 0 (gC enF X)))))
  /\ ((Plain (gC enF g.1)) /\ (∀ (y2 : Unit), ((True) → ((0 = 0) /\ ((n = List.length g.1) /\ ((v = bs g.4) /\ ((Eq (α := List Value) (gC enF X) (gC enF g.2)) /\ ((Plain (gC
  enF X)) /\ ((Eq (α := List Value) (gC enF F) (gC enF g.3)) /\ ((Plain (gC enF F)) /\ ((Eq (α := List Value) (gC enR R) (gC enR (List.map toR g.1))) /\ ((Plain (gC enR R))
  /\ True))))))))))))))))))))))) False) False) False))))))))))))) ((Value.string (bs r.3) = Value.string (bs r.3)) /\ (((((True /\ (True /\ (True /\ ((0 + List.length F * 2
  <= List.length (gC enF F) /\ Plain (List.take (List.length F * 2) (List.drop 0 (gC enF F)))) /\ (True /\ (True /\ (True /\ (True /\ (True /\ True))))))))) /\ (True /\
  True)) /\ ((True /\ True) /\ (True /\ (IsF (Row.mk (List.take (List.length F * 2) (List.drop 0 (gC enF F))) true (Ob.cells true)) (List.length F) /\ List.length F <=
  9223372036854775807))))) /\ (br (strEq (fsV (Row.mk (List.take (List.length F * 2) (List.drop 0 (gC enF F))) true (Ob.cells true)) (ByteArray.mk #[58, 109, 101, 116, 104,
  111, 100])) (ByteArray.mk #[72, 69, 65, 68])) ((((True /\ True) /\ (True /\ (True /\ I64 r.1)))) /\ (br (!strEq (bs r.2) (ByteArray.mk #[])) (br (!strEq (bs r.3)
  (ByteArray.mk #[])) (br (decide (0 + List.length X * 2 <= List.length (gC enF X))) (br (allOne (List.take (List.length X * 2) (List.drop 0 (gC enF X)))) (br (decide (3 +
  List.length X <= 16777216)) (∃ g : GRr, ((0 < List.length g.1 /\ List.length g.1 <= 1048580) /\ ((bs g.4 = ByteArray.mk #[]) /\ ((0 = 0) /\ ((List.length g.1 = 3 +
  List.length X) /\ (((0 : Int) = (0 : Int)) /\ ((Eq (α := List Value) (gC enF g.2) (gC enF X)) /\ ((Plain (gC enF g.2)) /\ ((Eq (α := List Value) (gC enF g.3) (gC enF F))
  /\ ((Plain (gC enF g.3)) /\ ((Eq (α := List Value) (gC enF g.1) (Value.string (ByteArray.mk #[58, 115, 116, 97, 116, 117, 115]) :: Value.string (digZ r.1) :: Value.string
  (ByteArray.mk #[99, 97, 99, 104, 101, 45, 99, 111, 110, 116, 114, 111, 108]) :: Value.string (bs r.2) :: Value.string (ByteArray.mk #[101, 116, 97, 103]) :: Value.string
  (bs r.3) :: ([] ++ List.take (List.length X * 2) (List.drop 0 (gC enF X))))) /\ ((Plain (gC enF g.1)) /\ (∀ (y2 : Unit), ((True) → ((0 = 0) /\ ((n = List.length g.1) /\
  ((v = bs g.4) /\ ((Eq (α := List Value) (gC enF X) (gC enF g.2)) /\ ((Plain (gC enF X)) /\ ((Eq (α := List Value) (gC enF F) (gC enF g.3)) /\ ((Plain (gC enF F)) /\ ((Eq
  (α := List Value) (gC enR R) (gC enR (List.map toR g.1))) /\ ((Plain (gC enR R)) /\ True))))))))))))))))))))))) False) False) False) (br (decide (0 + List.length X * 2 <=
  List.length (gC enF X))) (br (allOne (List.take (List.length X * 2) (List.drop 0 (gC enF X)))) (br (decide (2 + List.length X <= 16777216)) (∃ g : GRr, ((0 < List.length
  g.1 /\ List.length g.1 <= 1048580) /\ ((bs g.4 = ByteArray.mk #[]) /\ ((0 = 0) /\ ((List.length g.1 = 2 + List.length X) /\ (((0 : Int) = (0 : Int)) /\ ((Eq (α := List
  Value) (gC enF g.2) (gC enF X)) /\ ((Plain (gC enF g.2)) /\ ((Eq (α := List Value) (gC enF g.3) (gC enF F)) /\ ((Plain (gC enF g.3)) /\ ((Eq (α := List Value) (gC enF g.1)
  (Value.string (ByteArray.mk #[58, 115, 116, 97, 116, 117, 115]) :: Value.string (digZ r.1) :: Value.string (ByteArray.mk #[99, 97, 99, 104, 101, 45, 99, 111, 110, 116,
  114, 111, 108]) :: Value.string (bs r.2) :: ([] ++ List.take (List.length X * 2) (List.drop 0 (gC enF X))))) /\ ((Plain (gC enF g.1)) /\ (∀ (y2 : Unit), ((True) → ((0 = 0)
  /\ ((n = List.length g.1) /\ ((v = bs g.4) /\ ((Eq (α := List Value) (gC enF X) (gC enF g.2)) /\ ((Plain (gC enF X)) /\ ((Eq (α := List Value) (gC enF F) (gC enF g.3)) /\
  ((Plain (gC enF F)) /\ ((Eq (α := List Value) (gC enR R) (gC enR (List.map toR g.1))) /\ ((Plain (gC enR R)) /\ True))))))))))))))))))))))) False) False) False)) (br
  (!strEq (bs r.3) (ByteArray.mk #[])) (br (decide (0 + List.length X * 2 <= List.length (gC enF X))) (br (allOne (List.take (List.length X * 2) (List.drop 0 (gC enF X))))
  (br (decide (2 + List.length X <= 16777216)) (∃ g : GRr, ((0 < List.length g.1 /\ List.length g.1 <= 1048580) /\ ((bs g.4 = ByteArray.mk #[]) /\ ((0 = 0) /\ ((List.length
  g.1 = 2 + List.length X) /\ (((0 : Int) = (0 : Int)) /\ ((Eq (α := List Value) (gC enF g.2) (gC enF X)) /\ ((Plain (gC enF g.2)) /\ ((Eq (α := List Value) (gC enF g.3) (gC
  enF F)) /\ ((Plain (gC enF g.3)) /\ ((Eq (α := List Value) (gC enF g.1) (Value.string (ByteArray.mk #[58, 115, 116, 97, 116, 117, 115]) :: Value.string (digZ r.1) ::
  Value.string (ByteArray.mk #[101, 116, 97, 103]) :: Value.string (bs r.3) :: ([] ++ List.take (List.length X * 2) (List.drop 0 (gC enF X))))) /\ ((Plain (gC enF g.1)) /\
  (∀ (y2 : Unit), ((True) → ((0 = 0) /\ ((n = List.length g.1) /\ ((v = bs g.4) /\ ((Eq (α := List Value) (gC enF X) (gC enF g.2)) /\ ((Plain (gC enF X)) /\ ((Eq (α := List
  Value) (gC enF F) (gC enF g.3)) /\ ((Plain (gC enF F)) /\ ((Eq (α := List Value) (gC enR R) (gC enR (List.map toR g.1))) /\ ((Plain (gC enR R)) /\
  True))))))))))))))))))))))) False) False) False) (br (decide (0 + List.length X * 2 <= List.length (gC enF X))) (br (allOne (List.take (List.length X * 2) (List.drop 0 (gC
  enF X)))) (br (decide (1 + List.length X <= 16777216)) (∃ g : GRr, ((0 < List.length g.1 /\ List.length g.1 <= 1048580) /\ ((bs g.4 = ByteArray.mk #[]) /\ ((0 = 0) /\
  ((List.length g.1 = 1 + List.length X) /\ (((0 : Int) = (0 : Int)) /\ ((Eq (α := List Value) (gC enF g.2) (gC enF X)) /\ ((Plain (gC enF g.2)) /\ ((Eq (α := List Value)
  (gC enF g.3) (gC enF F)) /\ ((Plain (gC enF g.3)) /\ ((Eq (α := List Value) (gC enF g.1) (Value.string (ByteArray.mk #[58, 115, 116, 97, 116, 117, 115]) :: Value.string
  (digZ r.1) :: ([] ++ List.take (List.length X * 2) (List.drop 0 (gC enF X))))) /\ ((Plain (gC enF g.1)) /\ (∀ (y2 : Unit), ((True) → ((0 = 0) /\ ((n = List.length g.1) /\
  ((v = bs g.4) /\ ((Eq (α := List Value) (gC enF X) (gC enF g.2)) /\ ((Plain (gC enF X)) /\ ((Eq (α := List Value) (gC enF F) (gC enF g.3)) /\ ((Plain (gC enF F)) /\ ((Eq
  (α := List Value) (gC enR R) (gC enR (List.map toR g.1))) /\ ((Plain (gC enR R)) /\ True))))))))))))))))))))))) False) False) False)))) (br (r.1 == (204 : Int)) ((((True
  /\ True) /\ (True /\ (True /\ I64 r.1)))) /\ (br (!strEq (bs r.2) (ByteArray.mk #[])) (br (!strEq (bs r.3) (ByteArray.mk #[])) (br (decide (0 + List.length X * 2 <=
  List.length (gC enF X))) (br (allOne (List.take (List.length X * 2) (List.drop 0 (gC enF X)))) (br (decide (3 + List.length X <= 16777216)) (∃ g : GRr, ((0 < List.length
  g.1 /\ List.length g.1 <= 1048580) /\ ((bs g.4 = ByteArray.mk #[]) /\ ((0 = 0) /\ ((List.length g.1 = 3 + List.length X) /\ (((0 : Int) = (0 : Int)) /\ ((Eq (α := List
  Value) (gC enF g.2) (gC enF X)) /\ ((Plain (gC enF g.2)) /\ ((Eq (α := List Value) (gC enF g.3) (gC enF F)) /\ ((Plain (gC enF g.3)) /\ ((Eq (α := List Value) (gC enF g.1)
  (Value.string (ByteArray.mk #[58, 115, 116, 97, 116, 117, 115]) :: Value.string (digZ r.1) :: Value.string (ByteArray.mk #[99, 97, 99, 104, 101, 45, 99, 111, 110, 116,
  114, 111, 108]) :: Value.string (bs r.2) :: Value.string (ByteArray.mk #[101, 116, 97, 103]) :: Value.string (bs r.3) :: ([] ++ List.take (List.length X * 2) (List.drop 0
  (gC enF X))))) /\ ((Plain (gC enF g.1)) /\ (∀ (y2 : Unit), ((True) → ((0 = 0) /\ ((n = List.length g.1) /\ ((v = bs g.4) /\ ((Eq (α := List Value) (gC enF X) (gC enF g.2))
  /\ ((Plain (gC enF X)) /\ ((Eq (α := List Value) (gC enF F) (gC enF g.3)) /\ ((Plain (gC enF F)) /\ ((Eq (α := List Value) (gC enR R) (gC enR (List.map toR g.1))) /\
  ((Plain (gC enR R)) /\ True))))))))))))))))))))))) False) False) False) (br (decide (0 + List.length X * 2 <= List.length (gC enF X))) (br (allOne (List.take (List.length
  X * 2) (List.drop 0 (gC enF X)))) (br (decide (2 + List.length X <= 16777216)) (∃ g : GRr, ((0 < List.length g.1 /\ List.length g.1 <= 1048580) /\ ((bs g.4 = ByteArray.mk
  #[]) /\ ((0 = 0) /\ ((List.length g.1 = 2 + List.length X) /\ (((0 : Int) = (0 : Int)) /\ ((Eq (α := List Value) (gC enF g.2) (gC enF X)) /\ ((Plain (gC enF g.2)) /\ ((Eq
  (α := List Value) (gC enF g.3) (gC enF F)) /\ ((Plain (gC enF g.3)) /\ ((Eq (α := List Value) (gC enF g.1) (Value.string (ByteArray.mk #[58, 115, 116, 97, 116, 117, 115])
  :: Value.string (digZ r.1) :: Value.string (ByteArray.mk #[99, 97, 99, 104, 101, 45, 99, 111, 110, 116, 114, 111, 108]) :: Value.string (bs r.2) :: ([] ++ List.take
  (List.length X * 2) (List.drop 0 (gC enF X))))) /\ ((Plain (gC enF g.1)) /\ (∀ (y2 : Unit), ((True) → ((0 = 0) /\ ((n = List.length g.1) /\ ((v = bs g.4) /\ ((Eq (α :=
  List Value) (gC enF X) (gC enF g.2)) /\ ((Plain (gC enF X)) /\ ((Eq (α := List Value) (gC enF F) (gC enF g.3)) /\ ((Plain (gC enF F)) /\ ((Eq (α := List Value) (gC enR R)
  (gC enR (List.map toR g.1))) /\ ((Plain (gC enR R)) /\ True))))))))))))))))))))))) False) False) False)) (br (!strEq (bs r.3) (ByteArray.mk #[])) (br (decide (0 +
  List.length X * 2 <= List.length (gC enF X))) (br (allOne (List.take (List.length X * 2) (List.drop 0 (gC enF X)))) (br (decide (2 + List.length X <= 16777216)) (∃ g :
  GRr, ((0 < List.length g.1 /\ List.length g.1 <= 1048580) /\ ((bs g.4 = ByteArray.mk #[]) /\ ((0 = 0) /\ ((List.length g.1 = 2 + List.length X) /\ (((0 : Int) = (0 : Int))
  /\ ((Eq (α := List Value) (gC enF g.2) (gC enF X)) /\ ((Plain (gC enF g.2)) /\ ((Eq (α := List Value) (gC enF g.3) (gC enF F)) /\ ((Plain (gC enF g.3)) /\ ((Eq (α := List
  Value) (gC enF g.1) (Value.string (ByteArray.mk #[58, 115, 116, 97, 116, 117, 115]) :: Value.string (digZ r.1) :: Value.string (ByteArray.mk #[101, 116, 97, 103]) ::
  Value.string (bs r.3) :: ([] ++ List.take (List.length X * 2) (List.drop 0 (gC enF X))))) /\ ((Plain (gC enF g.1)) /\ (∀ (y2 : Unit), ((True) → ((0 = 0) /\ ((n =
  List.length g.1) /\ ((v = bs g.4) /\ ((Eq (α := List Value) (gC enF X) (gC enF g.2)) /\ ((Plain (gC enF X)) /\ ((Eq (α := List Value) (gC enF F) (gC enF g.3)) /\ ((Plain
  (gC enF F)) /\ ((Eq (α := List Value) (gC enR R) (gC enR (List.map toR g.1))) /\ ((Plain (gC enR R)) /\ True))))))))))))))))))))))) False) False) False) (br (decide (0 +
  List.length X * 2 <= List.length (gC enF X))) (br (allOne (List.take (List.length X * 2) (List.drop 0 (gC enF X)))) (br (decide (1 + List.length X <= 16777216)) (∃ g :
  GRr, ((0 < List.length g.1 /\ List.length g.1 <= 1048580) /\ ((bs g.4 = ByteArray.mk #[]) /\ ((0 = 0) /\ ((List.length g.1 = 1 + List.length X) /\ (((0 : Int) = (0 : Int))
  /\ ((Eq (α := List Value) (gC enF g.2) (gC enF X)) /\ ((Plain (gC enF g.2)) /\ ((Eq (α := List Value) (gC enF g.3) (gC enF F)) /\ ((Plain (gC enF g.3)) /\ ((Eq (α := List
  Value) (gC enF g.1) (Value.string (ByteArray.mk #[58, 115, 116, 97, 116, 117, 115]) :: Value.string (digZ r.1) :: ([] ++ List.take (List.length X * 2) (List.drop 0 (gC enF
  X))))) /\ ((Plain (gC enF g.1)) /\ (∀ (y2 : Unit), ((True) → ((0 = 0) /\ ((n = List.length g.1) /\ ((v = bs g.4) /\ ((Eq (α := List Value) (gC enF X) (gC enF g.2)) /\
  ((Plain (gC enF X)) /\ ((Eq (α := List Value) (gC enF F) (gC enF g.3)) /\ ((Plain (gC enF F)) /\ ((Eq (α := List Value) (gC enR R) (gC enR (List.map toR g.1))) /\ ((Plain
  (gC enR R)) /\ True))))))))))))))))))))))) False) False) False)))) ((((True /\ True) /\ (True /\ (True /\ I64 r.1)))) /\ (br (!strEq (bs r.2) (ByteArray.mk #[])) (br
  (!strEq (bs r.3) (ByteArray.mk #[])) (br (decide (0 + List.length X * 2 <= List.length (gC enF X))) (br (allOne (List.take (List.length X * 2) (List.drop 0 (gC enF X))))
  (br (decide (3 + List.length X <= 16777216)) (∃ g : GRr, ((0 < List.length g.1 /\ List.length g.1 <= 1048580) /\ ((bs g.4 = bs r.4) /\ ((0 = 0) /\ ((List.length g.1 = 3 +
  List.length X) /\ (((0 : Int) = (0 : Int)) /\ ((Eq (α := List Value) (gC enF g.2) (gC enF X)) /\ ((Plain (gC enF g.2)) /\ ((Eq (α := List Value) (gC enF g.3) (gC enF F))
  /\ ((Plain (gC enF g.3)) /\ ((Eq (α := List Value) (gC enF g.1) (Value.string (ByteArray.mk #[58, 115, 116, 97, 116, 117, 115]) :: Value.string (digZ r.1) :: Value.string
  (ByteArray.mk #[99, 97, 99, 104, 101, 45, 99, 111, 110, 116, 114, 111, 108]) :: Value.string (bs r.2) :: Value.string (ByteArray.mk #[101, 116, 97, 103]) :: Value.string
  (bs r.3) :: ([] ++ List.take (List.length X * 2) (List.drop 0 (gC enF X))))) /\ ((Plain (gC enF g.1)) /\ (∀ (y2 : Unit), ((True) → ((0 = 0) /\ ((n = List.length g.1) /\
  ((v = bs g.4) /\ ((Eq (α := List Value) (gC enF X) (gC enF g.2)) /\ ((Plain (gC enF X)) /\ ((Eq (α := List Value) (gC enF F) (gC enF g.3)) /\ ((Plain (gC enF F)) /\ ((Eq
  (α := List Value) (gC enR R) (gC enR (List.map toR g.1))) /\ ((Plain (gC enR R)) /\ True))))))))))))))))))))))) False) False) False) (br (decide (0 + List.length X * 2 <=
  List.length (gC enF X))) (br (allOne (List.take (List.length X * 2) (List.drop 0 (gC enF X)))) (br (decide (2 + List.length X <= 16777216)) (∃ g : GRr, ((0 < List.length
  g.1 /\ List.length g.1 <= 1048580) /\ ((bs g.4 = bs r.4) /\ ((0 = 0) /\ ((List.length g.1 = 2 + List.length X) /\ (((0 : Int) = (0 : Int)) /\ ((Eq (α := List Value) (gC
  enF g.2) (gC enF X)) /\ ((Plain (gC enF g.2)) /\ ((Eq (α := List Value) (gC enF g.3) (gC enF F)) /\ ((Plain (gC enF g.3)) /\ ((Eq (α := List Value) (gC enF g.1)
  (Value.string (ByteArray.mk #[58, 115, 116, 97, 116, 117, 115]) :: Value.string (digZ r.1) :: Value.string (ByteArray.mk #[99, 97, 99, 104, 101, 45, 99, 111, 110, 116,
  114, 111, 108]) :: Value.string (bs r.2) :: ([] ++ List.take (List.length X * 2) (List.drop 0 (gC enF X))))) /\ ((Plain (gC enF g.1)) /\ (∀ (y2 : Unit), ((True) → ((0 = 0)
  /\ ((n = List.length g.1) /\ ((v = bs g.4) /\ ((Eq (α := List Value) (gC enF X) (gC enF g.2)) /\ ((Plain (gC enF X)) /\ ((Eq (α := List Value) (gC enF F) (gC enF g.3)) /\
  ((Plain (gC enF F)) /\ ((Eq (α := List Value) (gC enR R) (gC enR (List.map toR g.1))) /\ ((Plain (gC enR R)) /\ True))))))))))))))))))))))) False) False) False)) (br
  (!strEq (bs r.3) (ByteArray.mk #[])) (br (decide (0 + List.length X * 2 <= List.length (gC enF X))) (br (allOne (List.take (List.length X * 2) (List.drop 0 (gC enF X))))
  (br (decide (2 + List.length X <= 16777216)) (∃ g : GRr, ((0 < List.length g.1 /\ List.length g.1 <= 1048580) /\ ((bs g.4 = bs r.4) /\ ((0 = 0) /\ ((List.length g.1 = 2 +
  List.length X) /\ (((0 : Int) = (0 : Int)) /\ ((Eq (α := List Value) (gC enF g.2) (gC enF X)) /\ ((Plain (gC enF g.2)) /\ ((Eq (α := List Value) (gC enF g.3) (gC enF F))
  /\ ((Plain (gC enF g.3)) /\ ((Eq (α := List Value) (gC enF g.1) (Value.string (ByteArray.mk #[58, 115, 116, 97, 116, 117, 115]) :: Value.string (digZ r.1) :: Value.string
  (ByteArray.mk #[101, 116, 97, 103]) :: Value.string (bs r.3) :: ([] ++ List.take (List.length X * 2) (List.drop 0 (gC enF X))))) /\ ((Plain (gC enF g.1)) /\ (∀ (y2 :
  Unit), ((True) → ((0 = 0) /\ ((n = List.length g.1) /\ ((v = bs g.4) /\ ((Eq (α := List Value) (gC enF X) (gC enF g.2)) /\ ((Plain (gC enF X)) /\ ((Eq (α := List Value)
  (gC enF F) (gC enF g.3)) /\ ((Plain (gC enF F)) /\ ((Eq (α := List Value) (gC enR R) (gC enR (List.map toR g.1))) /\ ((Plain (gC enR R)) /\ True)))))))))))))))))))))))
  False) False) False) (br (decide (0 + List.length X * 2 <= List.length (gC enF X))) (br (allOne (List.take (List.length X * 2) (List.drop 0 (gC enF X)))) (br (decide (1 +
  List.length X <= 16777216)) (∃ g : GRr, ((0 < List.length g.1 /\ List.length g.1 <= 1048580) /\ ((bs g.4 = bs r.4) /\ ((0 = 0) /\ ((List.length g.1 = 1 + List.length X) /\
  (((0 : Int) = (0 : Int)) /\ ((Eq (α := List Value) (gC enF g.2) (gC enF X)) /\ ((Plain (gC enF g.2)) /\ ((Eq (α := List Value) (gC enF g.3) (gC enF F)) /\ ((Plain (gC enF
  g.3)) /\ ((Eq (α := List Value) (gC enF g.1) (Value.string (ByteArray.mk #[58, 115, 116, 97, 116, 117, 115]) :: Value.string (digZ r.1) :: ([] ++ List.take (List.length X
  * 2) (List.drop 0 (gC enF X))))) /\ ((Plain (gC enF g.1)) /\ (∀ (y2 : Unit), ((True) → ((0 = 0) /\ ((n = List.length g.1) /\ ((v = bs g.4) /\ ((Eq (α := List Value) (gC
  enF X) (gC enF g.2)) /\ ((Plain (gC enF X)) /\ ((Eq (α := List Value) (gC enF F) (gC enF g.3)) /\ ((Plain (gC enF F)) /\ ((Eq (α := List Value) (gC enR R) (gC enR
  (List.map toR g.1))) /\ ((Plain (gC enR R)) /\ True))))))))))))))))))))))) False) False) False))))))))))) := by kernel_rfl
theorem tRr_ok : ∀ x ∈ tRr, EntOk Tryz.prog x := all_cons eVr_ok (all_cons eDr_ok (all_nil))
theorem Rr_piece : PieceOk EtRr 2 (21, pRr, specRr) := by
  refine piece_first mixed (calls_envT tRr_ok) (lok_envT _ _) lm_none (n := 60) (n' := 4) (by kernel_rfl) (fun _ : GRr => (0 : Nat)) (fun g i => 0 < i ∧ i ≤ g.L.length) (fun g i => g.L.length - i) (sl := slRr) (rl := rlRr) (fun g hg => ?_) (fun g i hg hi => ?_)
  · refine (Rr_first g _ _ _).mpr ?_
    simp only [ofNat_eq, toNat_cast, Nat.zero_add, Nat.add_zero, Nat.mul_one, List.drop_zero, bCells_len, bCells_drop, bCells_take, bCells_app, bCells_one, bCells_plain, List.length_replicate, List.length_append, List.length_take, List.length_drop, List.take_length, and_true, true_and, and_self, decide_true, List.length_nil, List.length_cons, Nat.sub_zero, dB_mk, dB_ro, List.take_zero]
    have hl : 0 < g.L.length := hg.1
    refine br_dec (by omega) (br_dec (by omega) ?_)
    obtain ⟨c0, c1, d0, d1⟩ := fGet g.L 0 hl
    simp only [Nat.zero_mul, Nat.zero_add] at c0 c1 d0 d1
    rw [d0, d1]
    refine ⟨c0, c1, 1, ⟨by omega, by omega⟩, by omega, rfl, rfl, fPl _, fPl _, fPl _, ?_, rPl _⟩
    have := take_map g.L 0 hl
    rw [show List.take 1 g.L = List.take (0 + 1) g.L from rfl, this]
    rfl
  · refine (Rr_round g i _ _).mpr ?_
    simp only [ofNat_eq, toNat_cast, Nat.zero_add, Nat.add_zero, Nat.mul_one, List.drop_zero, bCells_len, bCells_drop, bCells_take, bCells_app, bCells_one, bCells_plain, List.length_replicate, List.length_append, List.length_take, List.length_drop, List.take_length, and_true, true_and, and_self, decide_true, List.length_nil, List.length_cons, Nat.sub_zero, dB_mk, dB_ro, List.take_zero]
    refine br_if (fun h => br_dec (by omega) ?_) (fun h => ?_)
    · have hi' : i < g.L.length := by omega
      obtain ⟨c0, c1, d0, d1⟩ := fGet g.L i hi'
      have hlen : (gC enR (List.map toR (List.take i g.L))).length = i * 3 := by
        rw [gC_len enR_k, List.length_map, List.length_take, Nat.min_eq_left (by omega)]
      have w1 : IntKind.i64.wrap ((i : Int) + 1) = ((i + 1 : Nat) : Int) := by rw [wr64_id (by unfold I64; omega)]; omega
      have hcut : List.take (i * 3) (gC enR (List.map toR (List.take i g.L))) = gC enR (List.map toR (List.take i g.L)) := List.take_of_length_le (by rw [hlen]; exact Nat.le_refl _)
      rw [d0, d1, w1]
      refine ⟨c0, c1, br_dec (by omega) (br_dec (by rw [hlen]; exact Nat.le_refl _) ⟨i + 1, ⟨by omega, by omega⟩, by omega, rfl, rfl, fPl _, fPl _, fPl _, ?_, rPl _⟩)⟩
      rw [take_map _ _ hi', ← gC_app, hcut]
      rfl
    · have : i = g.L.length := by omega
      subst this
      exact ⟨(), rfl, fPl _, fPl _, by rw [List.take_length], rPl _⟩
theorem Rr_con (r : Ru) (y : TkY) (X F : List Fl) (h0 : I64 r.st) (hX : X.length ≤ 1048576) (hF : F.length ≤ maxLen) : Con Tryz.prog 21 [.agg ⟨ruC r 0 X.length⟩, .agg ⟨tkCy y 1 F.length⟩] [gRo enF X, gRo enF F] (.tuple #[.slice (some ⟨2, 0, none⟩) (reU r F X).length 3, .string (bs (boU r F))]) [gRo enF X, gRo enF F, gOwn enR (reU r F X)] := by
  refine con_vc (E := EtRr) mixed (calls_envT tRr_ok) (lok_envT _ _) (M := mRr) (lm_one Rr_piece) (Rr_vc r y X F _ _ _) ?_
  have tkF : ∀ A : List Fl, List.take (A.length * 2) (gC enF A) = gC enF A := fun A => List.take_of_length_le (by rw [fLen]; exact Nat.le_refl _)
  have e1 : (⟨#[105, 102, 45, 110, 111, 110, 101, 45, 109, 97, 116, 99, 104]⟩ : ByteArray) = bs nIf := rfl
  have e2 : (⟨#[58, 109, 101, 116, 104, 111, 100]⟩ : ByteArray) = bs nMe := rfl
  have e3 : (⟨#[72, 69, 65, 68]⟩ : ByteArray) = bs nHe := rfl
  have e4 : (⟨#[58, 115, 116, 97, 116, 117, 115]⟩ : ByteArray) = bs nSt := rfl
  have e5 : (⟨#[99, 97, 99, 104, 101, 45, 99, 111, 110, 116, 114, 111, 108]⟩ : ByteArray) = bs nCc := rfl
  have e6 : (⟨#[101, 116, 97, 103]⟩ : ByteArray) = bs nEt := rfl
  have e7 : (⟨#[]⟩ : ByteArray) = bs [] := rfl
  have hm : maxLen = 9223372036854775807 := by unfold maxLen; rfl
  have sd : (F.length * 2 ≤ (gC enF F).length ∧ Plain (gC enF F)) ∧ IsF ⟨gC enF F, true, .cells true⟩ F.length ∧ F.length ≤ 9223372036854775807 := ⟨⟨by rw [fLen]; exact Nat.le_refl _, fPl _⟩, ⟨F, rfl, rfl⟩, by omega⟩
  have zd : ∀ x, digZ x = bs (digL x) := fun x => by unfold digZ; rw [sealV_eq]
  simp only [ofNat_eq, toNat_cast, Nat.zero_add, Nat.add_zero, Nat.mul_one, List.drop_zero, bCells_len, bCells_drop, bCells_take, bCells_app, bCells_one, bCells_plain, List.length_replicate, List.length_append, List.length_take, List.length_drop, List.take_length, and_true, true_and, and_self, decide_true, List.length_nil, List.length_cons, Nat.sub_zero, dB_mk, dB_ro, List.take_zero, tkF, e1, e2, e3, e4, e5, e6, e7, n_fsV, n_fsB, strEq_bs, zd, List.append_nil, List.nil_append]
  have lf : ∀ (P : List Fl) (b : List UInt8), P.length ≤ 3 → 0 < P.length → reU r F X = (P ++ X).map toR → boU r F = b → ∃ g : GRr, (0 < g.L.length ∧ g.L.length ≤ 1048580) ∧ bs g.b = bs b ∧ g.L.length = P.length + X.length ∧ gC enF g.X = gC enF X ∧ Plain (gC enF g.X) ∧ gC enF g.F = gC enF F ∧ Plain (gC enF g.F) ∧ gC enF g.L = gC enF (P ++ X) ∧ Plain (gC enF g.L) ∧
      ∀ (_ : Unit), True → (reU r F X).length = g.L.length ∧ bs (boU r F) = bs g.b ∧ gC enF X = gC enF g.X ∧ Plain (gC enF X) ∧ gC enF F = gC enF g.F ∧ Plain (gC enF F) ∧ gC enR (reU r F X) = gC enR (List.map toR g.L) ∧ Plain (gC enR (reU r F X)) := by
    intro P b k1 k0 k2 k3
    refine ⟨⟨P ++ X, X, F, b⟩, ⟨by simp; omega, by simp; omega⟩, rfl, by simp, rfl, fPl _, rfl, fPl _, rfl, fPl _, fun _ _ => ⟨by rw [k2]; simp, by rw [k3], rfl, fPl _, rfl, fPl _, by rw [k2], rPl _⟩⟩
  refine br_ifn (fun b => ⟨sd, br_if (fun c => ?_) (fun c => ?_)⟩) (fun b => ?_)
  · have hu : isU r F = true := by unfold isU; simp; exact ⟨b, c⟩
    refine ⟨sd, ?_⟩
    repeat' first
      | refine br_ifn (fun _ => ?_) (fun _ => ?_)
      | refine br_ifb (fun _ => ?_) (fun _ => ?_)
      | refine br_dec (by first | (rw [fLen]; exact Nat.le_refl _) | omega) ?_
      | refine br_b (fOne _) ?_
      | refine br_if (fun _ => ?_) (fun _ => ?_)
      | refine And.intro (by first | exact h0 | (unfold I64; omega)) ?_
    all_goals first
    | exact absurd (show r.t = [] by assumption) (show ¬r.t = [] by assumption)
    | exact lf [⟨nSt, digL 304⟩] [] (Nat.le_of_ble_eq_true rfl) (by simp) (by unfold reU heU stU; simp [*]) (by unfold boU stU; simp [*])
    | exact lf [⟨nSt, digL 304⟩] r.b (Nat.le_of_ble_eq_true rfl) (by simp) (by unfold reU heU stU; simp [*]) (by unfold boU stU; simp [*])
    | exact lf [⟨nSt, digL 304⟩, ⟨nEt, r.t⟩] [] (Nat.le_of_ble_eq_true rfl) (by simp) (by unfold reU heU stU; simp [*]) (by unfold boU stU; simp [*])
    | exact lf [⟨nSt, digL 304⟩, ⟨nEt, r.t⟩] r.b (Nat.le_of_ble_eq_true rfl) (by simp) (by unfold reU heU stU; simp [*]) (by unfold boU stU; simp [*])
    | exact lf [⟨nSt, digL 304⟩, ⟨nCc, r.c⟩] [] (Nat.le_of_ble_eq_true rfl) (by simp) (by unfold reU heU stU; simp [*]) (by unfold boU stU; simp [*])
    | exact lf [⟨nSt, digL 304⟩, ⟨nCc, r.c⟩] r.b (Nat.le_of_ble_eq_true rfl) (by simp) (by unfold reU heU stU; simp [*]) (by unfold boU stU; simp [*])
    | exact lf [⟨nSt, digL 304⟩, ⟨nCc, r.c⟩, ⟨nEt, r.t⟩] [] (Nat.le_of_ble_eq_true rfl) (by simp) (by unfold reU heU stU; simp [*]) (by unfold boU stU; simp [*])
    | exact lf [⟨nSt, digL 304⟩, ⟨nCc, r.c⟩, ⟨nEt, r.t⟩] r.b (Nat.le_of_ble_eq_true rfl) (by simp) (by unfold reU heU stU; simp [*]) (by unfold boU stU; simp [*])
    | exact lf [⟨nSt, digL r.st⟩] [] (Nat.le_of_ble_eq_true rfl) (by simp) (by unfold reU heU stU; simp [*]) (by unfold boU stU; simp [*])
    | exact lf [⟨nSt, digL r.st⟩] r.b (Nat.le_of_ble_eq_true rfl) (by simp) (by unfold reU heU stU; simp [*]) (by unfold boU stU; simp [*])
    | exact lf [⟨nSt, digL r.st⟩, ⟨nEt, r.t⟩] [] (Nat.le_of_ble_eq_true rfl) (by simp) (by unfold reU heU stU; simp [*]) (by unfold boU stU; simp [*])
    | exact lf [⟨nSt, digL r.st⟩, ⟨nEt, r.t⟩] r.b (Nat.le_of_ble_eq_true rfl) (by simp) (by unfold reU heU stU; simp [*]) (by unfold boU stU; simp [*])
    | exact lf [⟨nSt, digL r.st⟩, ⟨nCc, r.c⟩] [] (Nat.le_of_ble_eq_true rfl) (by simp) (by unfold reU heU stU; simp [*]) (by unfold boU stU; simp [*])
    | exact lf [⟨nSt, digL r.st⟩, ⟨nCc, r.c⟩] r.b (Nat.le_of_ble_eq_true rfl) (by simp) (by unfold reU heU stU; simp [*]) (by unfold boU stU; simp [*])
    | exact lf [⟨nSt, digL r.st⟩, ⟨nCc, r.c⟩, ⟨nEt, r.t⟩] [] (Nat.le_of_ble_eq_true rfl) (by simp) (by unfold reU heU stU; simp [*]) (by unfold boU stU; simp [*])
    | exact lf [⟨nSt, digL r.st⟩, ⟨nCc, r.c⟩, ⟨nEt, r.t⟩] r.b (Nat.le_of_ble_eq_true rfl) (by simp) (by unfold reU heU stU; simp [*]) (by unfold boU stU; simp [*])
  · have hu : isU r F = false := by unfold isU; simp; exact fun _ => c
    refine ⟨sd, ?_⟩
    repeat' first
      | refine br_ifn (fun _ => ?_) (fun _ => ?_)
      | refine br_ifb (fun _ => ?_) (fun _ => ?_)
      | refine br_dec (by first | (rw [fLen]; exact Nat.le_refl _) | omega) ?_
      | refine br_b (fOne _) ?_
      | refine br_if (fun _ => ?_) (fun _ => ?_)
      | refine And.intro (by first | exact h0 | (unfold I64; omega)) ?_
    all_goals first
    | exact absurd (show r.t = [] by assumption) (show ¬r.t = [] by assumption)
    | exact lf [⟨nSt, digL 304⟩] [] (Nat.le_of_ble_eq_true rfl) (by simp) (by unfold reU heU stU; simp [*]) (by unfold boU stU; simp [*])
    | exact lf [⟨nSt, digL 304⟩] r.b (Nat.le_of_ble_eq_true rfl) (by simp) (by unfold reU heU stU; simp [*]) (by unfold boU stU; simp [*])
    | exact lf [⟨nSt, digL 304⟩, ⟨nEt, r.t⟩] [] (Nat.le_of_ble_eq_true rfl) (by simp) (by unfold reU heU stU; simp [*]) (by unfold boU stU; simp [*])
    | exact lf [⟨nSt, digL 304⟩, ⟨nEt, r.t⟩] r.b (Nat.le_of_ble_eq_true rfl) (by simp) (by unfold reU heU stU; simp [*]) (by unfold boU stU; simp [*])
    | exact lf [⟨nSt, digL 304⟩, ⟨nCc, r.c⟩] [] (Nat.le_of_ble_eq_true rfl) (by simp) (by unfold reU heU stU; simp [*]) (by unfold boU stU; simp [*])
    | exact lf [⟨nSt, digL 304⟩, ⟨nCc, r.c⟩] r.b (Nat.le_of_ble_eq_true rfl) (by simp) (by unfold reU heU stU; simp [*]) (by unfold boU stU; simp [*])
    | exact lf [⟨nSt, digL 304⟩, ⟨nCc, r.c⟩, ⟨nEt, r.t⟩] [] (Nat.le_of_ble_eq_true rfl) (by simp) (by unfold reU heU stU; simp [*]) (by unfold boU stU; simp [*])
    | exact lf [⟨nSt, digL 304⟩, ⟨nCc, r.c⟩, ⟨nEt, r.t⟩] r.b (Nat.le_of_ble_eq_true rfl) (by simp) (by unfold reU heU stU; simp [*]) (by unfold boU stU; simp [*])
    | exact lf [⟨nSt, digL r.st⟩] [] (Nat.le_of_ble_eq_true rfl) (by simp) (by unfold reU heU stU; simp [*]) (by unfold boU stU; simp [*])
    | exact lf [⟨nSt, digL r.st⟩] r.b (Nat.le_of_ble_eq_true rfl) (by simp) (by unfold reU heU stU; simp [*]) (by unfold boU stU; simp [*])
    | exact lf [⟨nSt, digL r.st⟩, ⟨nEt, r.t⟩] [] (Nat.le_of_ble_eq_true rfl) (by simp) (by unfold reU heU stU; simp [*]) (by unfold boU stU; simp [*])
    | exact lf [⟨nSt, digL r.st⟩, ⟨nEt, r.t⟩] r.b (Nat.le_of_ble_eq_true rfl) (by simp) (by unfold reU heU stU; simp [*]) (by unfold boU stU; simp [*])
    | exact lf [⟨nSt, digL r.st⟩, ⟨nCc, r.c⟩] [] (Nat.le_of_ble_eq_true rfl) (by simp) (by unfold reU heU stU; simp [*]) (by unfold boU stU; simp [*])
    | exact lf [⟨nSt, digL r.st⟩, ⟨nCc, r.c⟩] r.b (Nat.le_of_ble_eq_true rfl) (by simp) (by unfold reU heU stU; simp [*]) (by unfold boU stU; simp [*])
    | exact lf [⟨nSt, digL r.st⟩, ⟨nCc, r.c⟩, ⟨nEt, r.t⟩] [] (Nat.le_of_ble_eq_true rfl) (by simp) (by unfold reU heU stU; simp [*]) (by unfold boU stU; simp [*])
    | exact lf [⟨nSt, digL r.st⟩, ⟨nCc, r.c⟩, ⟨nEt, r.t⟩] r.b (Nat.le_of_ble_eq_true rfl) (by simp) (by unfold reU heU stU; simp [*]) (by unfold boU stU; simp [*])
  · have hu : isU r F = false := by unfold isU; simp; exact fun h => absurd b h
    refine ⟨sd, ?_⟩
    repeat' first
      | refine br_ifn (fun _ => ?_) (fun _ => ?_)
      | refine br_ifb (fun _ => ?_) (fun _ => ?_)
      | refine br_dec (by first | (rw [fLen]; exact Nat.le_refl _) | omega) ?_
      | refine br_b (fOne _) ?_
      | refine br_if (fun _ => ?_) (fun _ => ?_)
      | refine And.intro (by first | exact h0 | (unfold I64; omega)) ?_
    all_goals first
    | exact absurd (show r.t = [] by assumption) (show ¬r.t = [] by assumption)
    | exact lf [⟨nSt, digL 304⟩] [] (Nat.le_of_ble_eq_true rfl) (by simp) (by unfold reU heU stU; simp [*]) (by unfold boU stU; simp [*])
    | exact lf [⟨nSt, digL 304⟩] r.b (Nat.le_of_ble_eq_true rfl) (by simp) (by unfold reU heU stU; simp [*]) (by unfold boU stU; simp [*])
    | exact lf [⟨nSt, digL 304⟩, ⟨nEt, r.t⟩] [] (Nat.le_of_ble_eq_true rfl) (by simp) (by unfold reU heU stU; simp [*]) (by unfold boU stU; simp [*])
    | exact lf [⟨nSt, digL 304⟩, ⟨nEt, r.t⟩] r.b (Nat.le_of_ble_eq_true rfl) (by simp) (by unfold reU heU stU; simp [*]) (by unfold boU stU; simp [*])
    | exact lf [⟨nSt, digL 304⟩, ⟨nCc, r.c⟩] [] (Nat.le_of_ble_eq_true rfl) (by simp) (by unfold reU heU stU; simp [*]) (by unfold boU stU; simp [*])
    | exact lf [⟨nSt, digL 304⟩, ⟨nCc, r.c⟩] r.b (Nat.le_of_ble_eq_true rfl) (by simp) (by unfold reU heU stU; simp [*]) (by unfold boU stU; simp [*])
    | exact lf [⟨nSt, digL 304⟩, ⟨nCc, r.c⟩, ⟨nEt, r.t⟩] [] (Nat.le_of_ble_eq_true rfl) (by simp) (by unfold reU heU stU; simp [*]) (by unfold boU stU; simp [*])
    | exact lf [⟨nSt, digL 304⟩, ⟨nCc, r.c⟩, ⟨nEt, r.t⟩] r.b (Nat.le_of_ble_eq_true rfl) (by simp) (by unfold reU heU stU; simp [*]) (by unfold boU stU; simp [*])
    | exact lf [⟨nSt, digL r.st⟩] [] (Nat.le_of_ble_eq_true rfl) (by simp) (by unfold reU heU stU; simp [*]) (by unfold boU stU; simp [*])
    | exact lf [⟨nSt, digL r.st⟩] r.b (Nat.le_of_ble_eq_true rfl) (by simp) (by unfold reU heU stU; simp [*]) (by unfold boU stU; simp [*])
    | exact lf [⟨nSt, digL r.st⟩, ⟨nEt, r.t⟩] [] (Nat.le_of_ble_eq_true rfl) (by simp) (by unfold reU heU stU; simp [*]) (by unfold boU stU; simp [*])
    | exact lf [⟨nSt, digL r.st⟩, ⟨nEt, r.t⟩] r.b (Nat.le_of_ble_eq_true rfl) (by simp) (by unfold reU heU stU; simp [*]) (by unfold boU stU; simp [*])
    | exact lf [⟨nSt, digL r.st⟩, ⟨nCc, r.c⟩] [] (Nat.le_of_ble_eq_true rfl) (by simp) (by unfold reU heU stU; simp [*]) (by unfold boU stU; simp [*])
    | exact lf [⟨nSt, digL r.st⟩, ⟨nCc, r.c⟩] r.b (Nat.le_of_ble_eq_true rfl) (by simp) (by unfold reU heU stU; simp [*]) (by unfold boU stU; simp [*])
    | exact lf [⟨nSt, digL r.st⟩, ⟨nCc, r.c⟩, ⟨nEt, r.t⟩] [] (Nat.le_of_ble_eq_true rfl) (by simp) (by unfold reU heU stU; simp [*]) (by unfold boU stU; simp [*])
    | exact lf [⟨nSt, digL r.st⟩, ⟨nCc, r.c⟩, ⟨nEt, r.t⟩] r.b (Nat.le_of_ble_eq_true rfl) (by simp) (by unfold reU heU stU; simp [*]) (by unfold boU stU; simp [*])
end Go.Proofs.YtkjppedfedaenaaGreatDoor.cy
