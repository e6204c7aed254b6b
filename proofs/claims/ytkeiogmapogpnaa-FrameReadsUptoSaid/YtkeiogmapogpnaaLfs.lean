/- Rows of frames held against each other. -/
import Derived.Test.YtkeiogmapogpnaaSz9
import Derived.Test.YtkeiogmapogpnaaRows
import Derived.Test.YtkeiogmapogpnaaLff
import Derived.Test.YtkeiogmapogpnaaLtok
import Derived.Test.YtkeiogmapogpnaaLbk0
import Derived.Test.YtkeiogmapogpnaaLbkS
set_option linter.unusedSimpArgs false
set_option linter.unusedVariables false
namespace Go.Proofs.Ytkeiogmapogpnaa.fe
open Go Go.Ev Go.Sy Go.RowKit Go.Proofs.Ytkeiogmapogpnaa.s9 Go.Proofs.Ytkeiogmapogpnaa.fd Go.Proofs.Ytkeiogmapogpnaa.gl
structure Gf where
  t : Int
  f : Int
  s : Int
  z : Nat
  o : Nat
  n : Nat
noncomputable def enH (a : Gf) : List Value := [.int .i64 a.t, .int .i64 a.f, .int .i64 a.s, .slice (some ⟨a.z, a.o, some 0⟩) a.n 1]
def pS : List Nat := [0, 1, 0, 1, 1]
structure Gs where
  a : List Gf
  b : List Gf
noncomputable def slS (a b : List Gf) (i : Nat) : List (Nat × Value) := [(0, slc4 0 a.length), (1, slc4 1 b.length), (5, .int .i64 (i : Nat))]
noncomputable def rlS (a b : List Gf) : List (Nat × Row) := [(0, gRo enH a), (1, gRo enH b)]
noncomputable def gB (a : Gf) : List UInt8 := (((gCells a.z).drop a.o).take a.n).map bOf
noncomputable def vw (a : Gf) : Int × Int × Int × List UInt8 := (a.t, a.f, a.s, gB a)
noncomputable def wsS (a b : List Gf) : List (Gate Unit) := [⟨.exit 0, fun _ => a.map vw = b.map vw, fun _ => [], fun _ => rlS a b, 2⟩, ⟨.ret, fun _ => a.map vw ≠ b.map vw, fun _ => [(4, .bool false)], fun _ => rlS a b, 2⟩]
def FOk (a : Gf) : Prop := ∃ p : List UInt8, ((gCells a.z).drop a.o).take a.n = bCells p ∧ p.length = a.n ∧ a.n ≤ 16777216 ∧ a.o + a.n ≤ (gCells a.z).length
noncomputable def specS : Sy.Spec := specOf 2 2 68 (fun g : Gs => g.a.length = g.b.length ∧ g.a.length ≤ maxLen ∧ (∀ x ∈ g.a, FOk x) ∧ ∀ x ∈ g.b, FOk x) (fun g => slS g.a g.b 0) (fun g => rlS g.a g.b) (fun g => wsS g.a g.b)
noncomputable def mS := mOf [(16, pS, specS)]
theorem bq_ex (f : Row → Row → Bool) : ∃ g, g = f := ⟨f, rfl⟩
noncomputable def zQ : Row → Row → Bool := Classical.choose (bq_ex fun a b => decide (dB a = dB b))
noncomputable def eSameB : EntM := entC 12 fun a r => match a, r with
  | [.slice (some ⟨0, 0, none⟩) n 1, .slice (some ⟨1, 0, none⟩) m 1], [r0, r1] => some (IsB r0 n ∧ IsB r1 m ∧ n ≤ maxLen, .bool (zQ r0 r1), [])
  | _, _ => none
open Classical in
noncomputable def zF : Row → Row → Bool := Classical.choose (bq_ex fun r q => if ∃ a b, r.cells = gC enH a ∧ q.cells = gC enH b ∧ a.map vw = b.map vw then true else false)
def IsF (r : Row) (n : Nat) : Prop := ∃ a : List Gf, r = gRo enH a ∧ n = a.length ∧ ∀ x ∈ a, FOk x
noncomputable def eSameF : EntM := entC 16 fun a r => match a, r with
  | [.slice (some ⟨0, 0, none⟩) n 4, .slice (some ⟨1, 0, none⟩) m 4], [r0, r1] => some (IsF r0 n ∧ IsF r1 m ∧ n ≤ maxLen, .bool (zF r0 r1), [])
  | _, _ => none
noncomputable def tS : List EntM := [eSameB]
noncomputable abbrev EtS : Env := envT Try.prog tS
theorem S_round (a b : List Gf) (i : Nat) (Inv : Nat → Prop) (q : Nat → Nat) : mev EtS noM 60 16 (0 :: pS) false (codeOf Try.prog 16 (0 :: pS)) ⟨mkOv (slS a b i), 68, []⟩ none ⟨mkR (rlS a b), 2⟩ (roundK 2 2 68 Inv q (fun i => slS a b i) (fun _ => rlS a b) (wsS a b) i) =
  (br (decide ((↑i : Int) < Int.ofNat (List.length a))) (br (decide ((0 : Int) <= (↑i : Int) /\ (↑i : Int) < (↑(List.length a) : Int))) ((Eq (α := Option Value) ((gC enH
  a)[0 + Int.toNat (↑i : Int) * 4 + 0]?) (some (Value.int IntKind.i64 (cellI (gC enH a) (0 + Int.toNat (↑i : Int) * 4 + 0))))) /\ (br (decide ((0 : Int) <= (↑i : Int) /\ (↑i
  : Int) < (↑(List.length b) : Int))) ((Eq (α := Option Value) ((gC enH b)[0 + Int.toNat (↑i : Int) * 4 + 0]?) (some (Value.int IntKind.i64 (cellI (gC enH b) (0 + Int.toNat
  (↑i : Int) * 4 + 0))))) /\ (br (cellI (gC enH a) (0 + Int.toNat (↑i : Int) * 4 + 0) != cellI (gC enH b) (0 + Int.toNat (↑i : Int) * 4 + 0)) ((Eq (α := Option Value) ((gC
  enH a)[0 + Int.toNat (↑i : Int) * 4 + 0]?) (some (Value.int IntKind.i64 (cellI (gC enH a) (0 + Int.toNat (↑i : Int) * 4 + 0))))) /\ ((Value.int IntKind.i64 (cellI (gC enH
  a) (0 + Int.toNat (↑i : Int) * 4 + 0)) = Value.int IntKind.i64 (cellI (gC enH a) (0 + Int.toNat (↑i : Int) * 4 + 0))) /\ ((Eq (α := Option Value) ((gC enH b)[0 + Int.toNat
  (↑i : Int) * 4 + 0]?) (some (Value.int IntKind.i64 (cellI (gC enH b) (0 + Int.toNat (↑i : Int) * 4 + 0))))) /\ ((Value.int IntKind.i64 (cellI (gC enH b) (0 + Int.toNat (↑i
  : Int) * 4 + 0)) = Value.int IntKind.i64 (cellI (gC enH b) (0 + Int.toNat (↑i : Int) * 4 + 0))) /\ (∃ y : Unit, ((List.map vw a ≠ List.map vw b) /\ ((false = false) /\
  ((Eq (α := List Value) (gC enH a) (gC enH a)) /\ ((Plain (gC enH a)) /\ ((Eq (α := List Value) (gC enH b) (gC enH b)) /\ ((Plain (gC enH b)) /\ True))))))))))) (br (decide
  ((0 : Int) <= (↑i : Int) /\ (↑i : Int) < (↑(List.length a) : Int))) ((Eq (α := Option Value) ((gC enH a)[0 + Int.toNat (↑i : Int) * 4 + 1]?) (some (Value.int IntKind.i64
  (cellI (gC enH a) (0 + Int.toNat (↑i : Int) * 4 + 1))))) /\ (br (decide ((0 : Int) <= (↑i : Int) /\ (↑i : Int) < (↑(List.length b) : Int))) ((Eq (α := Option Value) ((gC
  enH b)[0 + Int.toNat (↑i : Int) * 4 + 1]?) (some (Value.int IntKind.i64 (cellI (gC enH b) (0 + Int.toNat (↑i : Int) * 4 + 1))))) /\ (br (cellI (gC enH a) (0 + Int.toNat
  (↑i : Int) * 4 + 1) != cellI (gC enH b) (0 + Int.toNat (↑i : Int) * 4 + 1)) ((Eq (α := Option Value) ((gC enH a)[0 + Int.toNat (↑i : Int) * 4 + 0]?) (some (Value.int
  IntKind.i64 (cellI (gC enH a) (0 + Int.toNat (↑i : Int) * 4 + 0))))) /\ ((Value.int IntKind.i64 (cellI (gC enH a) (0 + Int.toNat (↑i : Int) * 4 + 0)) = Value.int
  IntKind.i64 (cellI (gC enH a) (0 + Int.toNat (↑i : Int) * 4 + 0))) /\ ((Eq (α := Option Value) ((gC enH b)[0 + Int.toNat (↑i : Int) * 4 + 0]?) (some (Value.int IntKind.i64
  (cellI (gC enH b) (0 + Int.toNat (↑i : Int) * 4 + 0))))) /\ ((Value.int IntKind.i64 (cellI (gC enH b) (0 + Int.toNat (↑i : Int) * 4 + 0)) = Value.int IntKind.i64 (cellI
  (gC enH b) (0 + Int.toNat (↑i : Int) * 4 + 0))) /\ ((Eq (α := Option Value) ((gC enH a)[0 + Int.toNat (↑i : Int) * 4 + 1]?) (some (Value.int IntKind.i64 (cellI (gC enH a)
  (0 + Int.toNat (↑i : Int) * 4 + 1))))) /\ ((Value.int IntKind.i64 (cellI (gC enH a) (0 + Int.toNat (↑i : Int) * 4 + 1)) = Value.int IntKind.i64 (cellI (gC enH a) (0 +
  Int.toNat (↑i : Int) * 4 + 1))) /\ ((Eq (α := Option Value) ((gC enH b)[0 + Int.toNat (↑i : Int) * 4 + 1]?) (some (Value.int IntKind.i64 (cellI (gC enH b) (0 + Int.toNat
  (↑i : Int) * 4 + 1))))) /\ ((Value.int IntKind.i64 (cellI (gC enH b) (0 + Int.toNat (↑i : Int) * 4 + 1)) = Value.int IntKind.i64 (cellI (gC enH b) (0 + Int.toNat (↑i :
  Int) * 4 + 1))) /\ (∃ y : Unit, ((List.map vw a ≠ List.map vw b) /\ ((false = false) /\ ((Eq (α := List Value) (gC enH a) (gC enH a)) /\ ((Plain (gC enH a)) /\ ((Eq (α :=
  List Value) (gC enH b) (gC enH b)) /\ ((Plain (gC enH b)) /\ True))))))))))))))) (br (decide ((0 : Int) <= (↑i : Int) /\ (↑i : Int) < (↑(List.length a) : Int))) ((Eq (α :=
  Option Value) ((gC enH a)[0 + Int.toNat (↑i : Int) * 4 + 2]?) (some (Value.int IntKind.i64 (cellI (gC enH a) (0 + Int.toNat (↑i : Int) * 4 + 2))))) /\ (br (decide ((0 :
  Int) <= (↑i : Int) /\ (↑i : Int) < (↑(List.length b) : Int))) ((Eq (α := Option Value) ((gC enH b)[0 + Int.toNat (↑i : Int) * 4 + 2]?) (some (Value.int IntKind.i64 (cellI
  (gC enH b) (0 + Int.toNat (↑i : Int) * 4 + 2))))) /\ (br (cellI (gC enH a) (0 + Int.toNat (↑i : Int) * 4 + 2) != cellI (gC enH b) (0 + Int.toNat (↑i : Int) * 4 + 2)) ((Eq
  (α := Option Value) ((gC enH a)[0 + Int.toNat (↑i : Int) * 4 + 0]?) (some (Value.int IntKind.i64 (cellI (gC enH a) (0 + Int.toNat (↑i : Int) * 4 + 0))))) /\ ((Value.int
  IntKind.i64 (cellI (gC enH a) (0 + Int.toNat (↑i : Int) * 4 + 0)) = Value.int IntKind.i64 (cellI (gC enH a) (0 + Int.toNat (↑i : Int) * 4 + 0))) /\ ((Eq (α := Option
  Value) ((gC enH b)[0 + Int.toNat (↑i : Int) * 4 + 0]?) (some (Value.int IntKind.i64 (cellI (gC enH b) (0 + Int.toNat (↑i : Int) * 4 + 0))))) /\ ((Value.int IntKind.i64
  (cellI (gC enH b) (0 + Int.toNat (↑i : Int) * 4 + 0)) = Value.int IntKind.i64 (cellI (gC enH b) (0 + Int.toNat (↑i : Int) * 4 + 0))) /\ ((Eq (α := Option Value) ((gC enH
  a)[0 + Int.toNat (↑i : Int) * 4 + 1]?) (some (Value.int IntKind.i64 (cellI (gC enH a) (0 + Int.toNat (↑i : Int) * 4 + 1))))) /\ ((Value.int IntKind.i64 (cellI (gC enH a)
  (0 + Int.toNat (↑i : Int) * 4 + 1)) = Value.int IntKind.i64 (cellI (gC enH a) (0 + Int.toNat (↑i : Int) * 4 + 1))) /\ ((Eq (α := Option Value) ((gC enH b)[0 + Int.toNat
  (↑i : Int) * 4 + 1]?) (some (Value.int IntKind.i64 (cellI (gC enH b) (0 + Int.toNat (↑i : Int) * 4 + 1))))) /\ ((Value.int IntKind.i64 (cellI (gC enH b) (0 + Int.toNat (↑i
  : Int) * 4 + 1)) = Value.int IntKind.i64 (cellI (gC enH b) (0 + Int.toNat (↑i : Int) * 4 + 1))) /\ ((Eq (α := Option Value) ((gC enH a)[0 + Int.toNat (↑i : Int) * 4 + 2]?)
  (some (Value.int IntKind.i64 (cellI (gC enH a) (0 + Int.toNat (↑i : Int) * 4 + 2))))) /\ ((Value.int IntKind.i64 (cellI (gC enH a) (0 + Int.toNat (↑i : Int) * 4 + 2)) =
  Value.int IntKind.i64 (cellI (gC enH a) (0 + Int.toNat (↑i : Int) * 4 + 2))) /\ ((Eq (α := Option Value) ((gC enH b)[0 + Int.toNat (↑i : Int) * 4 + 2]?) (some (Value.int
  IntKind.i64 (cellI (gC enH b) (0 + Int.toNat (↑i : Int) * 4 + 2))))) /\ ((Value.int IntKind.i64 (cellI (gC enH b) (0 + Int.toNat (↑i : Int) * 4 + 2)) = Value.int
  IntKind.i64 (cellI (gC enH b) (0 + Int.toNat (↑i : Int) * 4 + 2))) /\ (∃ y : Unit, ((List.map vw a ≠ List.map vw b) /\ ((false = false) /\ ((Eq (α := List Value) (gC enH
  a) (gC enH a)) /\ ((Plain (gC enH a)) /\ ((Eq (α := List Value) (gC enH b) (gC enH b)) /\ ((Plain (gC enH b)) /\ True))))))))))))))))))) (br (decide ((0 : Int) <= (↑i :
  Int) /\ (↑i : Int) < (↑(List.length a) : Int))) ((Eq (α := Option Value) ((gC enH a)[0 + Int.toNat (↑i : Int) * 4 + 3]?) (some (Value.slice (some (Addr.mk (cellZ (gC enH
  a) (0 + Int.toNat (↑i : Int) * 4 + 3)) (cellO (gC enH a) (0 + Int.toNat (↑i : Int) * 4 + 3)) (some 0))) (cellN (gC enH a) (0 + Int.toNat (↑i : Int) * 4 + 3)) 1))) /\ (br
  (decide ((0 : Int) <= (↑i : Int) /\ (↑i : Int) < (↑(List.length b) : Int))) ((Eq (α := Option Value) ((gC enH b)[0 + Int.toNat (↑i : Int) * 4 + 3]?) (some (Value.slice
  (some (Addr.mk (cellZ (gC enH b) (0 + Int.toNat (↑i : Int) * 4 + 3)) (cellO (gC enH b) (0 + Int.toNat (↑i : Int) * 4 + 3)) (some 0))) (cellN (gC enH b) (0 + Int.toNat (↑i
  : Int) * 4 + 3)) 1))) /\ ((((cellO (gC enH a) (0 + Int.toNat (↑i : Int) * 4 + 3) + cellN (gC enH a) (0 + Int.toNat (↑i : Int) * 4 + 3) * 1 <= List.length (gCells (cellZ
  (gC enH a) (0 + Int.toNat (↑i : Int) * 4 + 3))) /\ (cellO (gC enH b) (0 + Int.toNat (↑i : Int) * 4 + 3) + cellN (gC enH b) (0 + Int.toNat (↑i : Int) * 4 + 3) * 1 <=
  List.length (gCells (cellZ (gC enH b) (0 + Int.toNat (↑i : Int) * 4 + 3))) /\ True)) /\ ((True /\ (True /\ True)) /\ (True /\ (IsB (Row.mk (List.take (cellN (gC enH a) (0
  + Int.toNat (↑i : Int) * 4 + 3) * 1) (List.drop (cellO (gC enH a) (0 + Int.toNat (↑i : Int) * 4 + 3)) (gCells (cellZ (gC enH a) (0 + Int.toNat (↑i : Int) * 4 + 3))))) true
  (Ob.cells true)) (cellN (gC enH a) (0 + Int.toNat (↑i : Int) * 4 + 3)) /\ (IsB (Row.mk (List.take (cellN (gC enH b) (0 + Int.toNat (↑i : Int) * 4 + 3) * 1) (List.drop
  (cellO (gC enH b) (0 + Int.toNat (↑i : Int) * 4 + 3)) (gCells (cellZ (gC enH b) (0 + Int.toNat (↑i : Int) * 4 + 3))))) true (Ob.cells true)) (cellN (gC enH b) (0 +
  Int.toNat (↑i : Int) * 4 + 3)) /\ cellN (gC enH a) (0 + Int.toNat (↑i : Int) * 4 + 3) <= 9223372036854775807)))))) /\ ((Eq (α := Option Value) ((gC enH a)[0 + Int.toNat
  (↑i : Int) * 4 + 0]?) (some (Value.int IntKind.i64 (cellI (gC enH a) (0 + Int.toNat (↑i : Int) * 4 + 0))))) /\ ((Value.int IntKind.i64 (cellI (gC enH a) (0 + Int.toNat (↑i
  : Int) * 4 + 0)) = Value.int IntKind.i64 (cellI (gC enH a) (0 + Int.toNat (↑i : Int) * 4 + 0))) /\ ((Eq (α := Option Value) ((gC enH b)[0 + Int.toNat (↑i : Int) * 4 + 0]?)
  (some (Value.int IntKind.i64 (cellI (gC enH b) (0 + Int.toNat (↑i : Int) * 4 + 0))))) /\ ((Value.int IntKind.i64 (cellI (gC enH b) (0 + Int.toNat (↑i : Int) * 4 + 0)) =
  Value.int IntKind.i64 (cellI (gC enH b) (0 + Int.toNat (↑i : Int) * 4 + 0))) /\ ((Eq (α := Option Value) ((gC enH a)[0 + Int.toNat (↑i : Int) * 4 + 1]?) (some (Value.int
  IntKind.i64 (cellI (gC enH a) (0 + Int.toNat (↑i : Int) * 4 + 1))))) /\ ((Value.int IntKind.i64 (cellI (gC enH a) (0 + Int.toNat (↑i : Int) * 4 + 1)) = Value.int
  IntKind.i64 (cellI (gC enH a) (0 + Int.toNat (↑i : Int) * 4 + 1))) /\ ((Eq (α := Option Value) ((gC enH b)[0 + Int.toNat (↑i : Int) * 4 + 1]?) (some (Value.int IntKind.i64
  (cellI (gC enH b) (0 + Int.toNat (↑i : Int) * 4 + 1))))) /\ ((Value.int IntKind.i64 (cellI (gC enH b) (0 + Int.toNat (↑i : Int) * 4 + 1)) = Value.int IntKind.i64 (cellI
  (gC enH b) (0 + Int.toNat (↑i : Int) * 4 + 1))) /\ ((Eq (α := Option Value) ((gC enH a)[0 + Int.toNat (↑i : Int) * 4 + 2]?) (some (Value.int IntKind.i64 (cellI (gC enH a)
  (0 + Int.toNat (↑i : Int) * 4 + 2))))) /\ ((Value.int IntKind.i64 (cellI (gC enH a) (0 + Int.toNat (↑i : Int) * 4 + 2)) = Value.int IntKind.i64 (cellI (gC enH a) (0 +
  Int.toNat (↑i : Int) * 4 + 2))) /\ ((Eq (α := Option Value) ((gC enH b)[0 + Int.toNat (↑i : Int) * 4 + 2]?) (some (Value.int IntKind.i64 (cellI (gC enH b) (0 + Int.toNat
  (↑i : Int) * 4 + 2))))) /\ ((Value.int IntKind.i64 (cellI (gC enH b) (0 + Int.toNat (↑i : Int) * 4 + 2)) = Value.int IntKind.i64 (cellI (gC enH b) (0 + Int.toNat (↑i :
  Int) * 4 + 2))) /\ ((Eq (α := Option Value) ((gC enH a)[0 + Int.toNat (↑i : Int) * 4 + 3]?) (some (Value.slice (some (Addr.mk (cellZ (gC enH a) (0 + Int.toNat (↑i : Int) *
  4 + 3)) (cellO (gC enH a) (0 + Int.toNat (↑i : Int) * 4 + 3)) (some 0))) (cellN (gC enH a) (0 + Int.toNat (↑i : Int) * 4 + 3)) 1))) /\ ((Value.slice (some (Addr.mk (cellZ
  (gC enH a) (0 + Int.toNat (↑i : Int) * 4 + 3)) (cellO (gC enH a) (0 + Int.toNat (↑i : Int) * 4 + 3)) (some 0))) (cellN (gC enH a) (0 + Int.toNat (↑i : Int) * 4 + 3)) 1 =
  Value.slice (some (Addr.mk (cellZ (gC enH a) (0 + Int.toNat (↑i : Int) * 4 + 3)) (cellO (gC enH a) (0 + Int.toNat (↑i : Int) * 4 + 3)) (some 0))) (cellN (gC enH a) (0 +
  Int.toNat (↑i : Int) * 4 + 3)) 1) /\ ((Eq (α := Option Value) ((gC enH b)[0 + Int.toNat (↑i : Int) * 4 + 3]?) (some (Value.slice (some (Addr.mk (cellZ (gC enH b) (0 +
  Int.toNat (↑i : Int) * 4 + 3)) (cellO (gC enH b) (0 + Int.toNat (↑i : Int) * 4 + 3)) (some 0))) (cellN (gC enH b) (0 + Int.toNat (↑i : Int) * 4 + 3)) 1))) /\ ((Value.slice
  (some (Addr.mk (cellZ (gC enH b) (0 + Int.toNat (↑i : Int) * 4 + 3)) (cellO (gC enH b) (0 + Int.toNat (↑i : Int) * 4 + 3)) (some 0))) (cellN (gC enH b) (0 + Int.toNat (↑i
  : Int) * 4 + 3)) 1 = Value.slice (some (Addr.mk (cellZ (gC enH b) (0 + Int.toNat (↑i : Int) * 4 + 3)) (cellO (gC enH b) (0 + Int.toNat (↑i : Int) * 4 + 3)) (some 0)))
  (cellN (gC enH b) (0 + Int.toNat (↑i : Int) * 4 + 3)) 1) /\ (br (!zQ (Row.mk (List.take (cellN (gC enH a) (0 + Int.toNat (↑i : Int) * 4 + 3) * 1) (List.drop (cellO (gC enH
  a) (0 + Int.toNat (↑i : Int) * 4 + 3)) (gCells (cellZ (gC enH a) (0 + Int.toNat (↑i : Int) * 4 + 3))))) true (Ob.cells true)) (Row.mk (List.take (cellN (gC enH b) (0 +
  Int.toNat (↑i : Int) * 4 + 3) * 1) (List.drop (cellO (gC enH b) (0 + Int.toNat (↑i : Int) * 4 + 3)) (gCells (cellZ (gC enH b) (0 + Int.toNat (↑i : Int) * 4 + 3))))) true
  (Ob.cells true))) (∃ y : Unit, ((List.map vw a ≠ List.map vw b) /\ ((false = false) /\ ((Eq (α := List Value) (gC enH a) (gC enH a)) /\ ((Plain (gC enH a)) /\ ((Eq (α :=
  List Value) (gC enH b) (gC enH b)) /\ ((Plain (gC enH b)) /\ True))))))) (∃ j : Nat, ((Inv j) /\ ((q j < q i) /\ ((0 = 0) /\ ((List.length a = List.length a) /\ ((0 = 0)
  /\ ((List.length b = List.length b) /\ (((↑j : Int) = IntKind.wrap IntKind.i64 ((↑i : Int) + (1 : Int))) /\ ((Eq (α := List Value) (gC enH a) (gC enH a)) /\ ((Plain (gC
  enH a)) /\ ((Eq (α := List Value) (gC enH b) (gC enH b)) /\ ((Plain (gC enH b)) /\ True))))))))))))))))))))))))))))))) False)) False))) False)) False))) False)) False)))
  False)) False) (∃ y : Unit, ((Eq (α := List (Int × Int × Int × List UInt8)) (List.map vw a) (List.map vw b)) /\ ((Eq (α := List Value) (gC enH a) (gC enH a)) /\ ((Plain
  (gC enH a)) /\ ((Eq (α := List Value) (gC enH b) (gC enH b)) /\ ((Plain (gC enH b)) /\ True))))))) := by kernel_rfl
theorem S_vc (a b : List Gf) (v : Bool) : mcall EtS mS 60 16 [slc4 0 a.length, slc4 1 b.length] ⟨mkR (nums 0 [gRo enH a, gRo enH b]), 2⟩ (retIs 2 (.bool v) [gRo enH a, gRo enH b]) =
  (br (Int.ofNat (List.length a) != Int.ofNat (List.length b)) ((v = false) /\ ((Eq (α := List Value) (gC enH a) (gC enH a)) /\ ((Plain (gC enH a)) /\ ((Eq (α := List Value)
  (gC enH b) (gC enH b)) /\ ((Plain (gC enH b)) /\ True))))) (∃ g : Gs, ((List.length g.1 = List.length g.2 /\ List.length g.1 <= 9223372036854775807 /\ (∀ (x : Gf), x ∈
  Gs.a g → FOk x) /\ ∀ (x : Gf), x ∈ Gs.b g → FOk x) /\ ((0 = 0) /\ ((List.length g.1 = List.length a) /\ ((0 = 0) /\ ((List.length g.2 = List.length b) /\ (((0 : Int) = (0
  : Int)) /\ ((Eq (α := List Value) (gC enH g.1) (gC enH a)) /\ ((Plain (gC enH g.1)) /\ ((Eq (α := List Value) (gC enH g.2) (gC enH b)) /\ ((Plain (gC enH g.2)) /\ (∀ (side
  : Bool), (br (side) (∀ (y : Unit), ((List.map vw g.1 = List.map vw g.2) → ((v = true) /\ ((Eq (α := List Value) (gC enH a) (gC enH g.1)) /\ ((Plain (gC enH a)) /\ ((Eq (α
  := List Value) (gC enH b) (gC enH g.2)) /\ ((Plain (gC enH b)) /\ True))))))) (∀ (y : Unit), ((List.map vw g.1 ≠ List.map vw g.2) → ((v = false) /\ ((Eq (α := List Value)
  (gC enH a) (gC enH g.1)) /\ ((Plain (gC enH a)) /\ ((Eq (α := List Value) (gC enH b) (gC enH g.2)) /\ ((Plain (gC enH b)) /\ True))))))))))))))))))))) := by kernel_rfl
theorem enH_k (a : Gf) : (enH a).length = 4 := rfl
theorem enH_pl (l : List Gf) : Plain (gC enH l) := gC_plain (fun a v hv => by
  unfold enH at hv
  simp only [List.mem_cons, List.mem_nil_iff, or_false] at hv
  rcases hv with rfl | rfl | rfl | rfl <;> rfl) l
theorem cH {l : List Gf} {i : Nat} (h : i < l.length) : ((gC enH l)[i * 4]? = some (.int .i64 l[i].t) ∧ (gC enH l)[i * 4 + 1]? = some (.int .i64 l[i].f) ∧ (gC enH l)[i * 4 + 2]? = some (.int .i64 l[i].s) ∧ (gC enH l)[i * 4 + 3]? = some (.slice (some ⟨l[i].z, l[i].o, some 0⟩) l[i].n 1)) :=
  ⟨(gC_get0 enH_k l i h (by omega)).trans rfl, (gC_get enH_k l i 1 h (by omega)).trans rfl, (gC_get enH_k l i 2 h (by omega)).trans rfl, (gC_get enH_k l i 3 h (by omega)).trans rfl⟩
theorem cI_of {l : List Value} {i : Nat} {k : IntKind} {n : Int} (h : l[i]? = some (.int k n)) : cellI l i = n := by unfold cellI; rw [h]
theorem cZ_of {l : List Value} {i z o n e : Nat} (h : l[i]? = some (.slice (some ⟨z, o, some 0⟩) n e)) : cellZ l i = z ∧ cellO l i = o ∧ cellN l i = n := by unfold cellZ cellO cellN; rw [h]; exact ⟨rfl, rfl, rfl⟩
theorem zQ_mk (a b : List UInt8) (x y : Bool) (o u : Ob) : zQ ⟨bCells a, x, o⟩ ⟨bCells b, y, u⟩ = decide (a = b) := by unfold zQ; rw [Classical.choose_spec (bq_ex _), dB_mk, dB_mk]
theorem eSameB_ok : EntOk Try.prog eSameB := entC_ok (by
  intro a rows p v news h hp
  split at h <;> simp only [Option.some.injEq, Prod.mk.injEq, reduceCtorEq] at h
  obtain ⟨rfl, rfl, rfl⟩ := h
  obtain ⟨⟨x, rfl, rfl⟩, ⟨y, rfl, rfl⟩, h3⟩ := hp
  unfold bRo
  rw [zQ_mk]
  exact Go.Proofs.Ytkeiogmapogpnaa.bk.same_con x y h3)
theorem tS_ok : ∀ x ∈ tS, EntOk Try.prog x := all_cons eSameB_ok (all_nil)
theorem S_piece : PieceOk EtS 2 (16, pS, specS) := by
  refine piece_loop mixed (calls_envT tS_ok) (lok_envT _ _) lm_none (n := 60) (by kernel_rfl) (fun _ : Gs => (0 : Nat)) (fun g i => i ≤ g.a.length ∧ (g.a.take i).map vw = (g.b.take i).map vw) (fun g i => g.a.length - i) (sl := fun g i => slS g.a g.b i) (rl := fun g _ => rlS g.a g.b) (fun g hg => ⟨Nat.zero_le _, rfl⟩) (fun g i hg hi => ?_)
  obtain ⟨a, b⟩ := g
  obtain ⟨h1, h2, h3, h4⟩ := hg
  obtain ⟨h5, h6⟩ := hi
  simp only at h1 h2 h3 h4 h5 h6
  have hmax : a.length ≤ 9223372036854775807 := h2
  refine (S_round a b i _ _).mpr ?_
  refine br_if (fun hlt => ?_) (fun hlt => ?_)
  · have ha : i < a.length := by have : (i : Int) < (a.length : Int) := hlt; omega
    have hb : i < b.length := by omega
    obtain ⟨a0, a1, a2, a3⟩ := cH ha
    obtain ⟨b0, b1, b2, b3⟩ := cH hb
    have e0 := cI_of a0; have e1 := cI_of a1; have e2 := cI_of a2
    have f0 := cI_of b0; have f1 := cI_of b1; have f2 := cI_of b2
    obtain ⟨z1, z2, z3⟩ := cZ_of a3
    obtain ⟨y1, y2, y3⟩ := cZ_of b3
    obtain ⟨p, hp1, hp2, hp3, lp⟩ := h3 a[i] (List.getElem_mem ha)
    obtain ⟨q, hq1, hq2, hq3, lq⟩ := h4 b[i] (List.getElem_mem hb)
    simp (disch := omega) only [ofNat_eq, toNat_cast, Nat.zero_add, Nat.add_zero, Nat.mul_one, List.drop_zero, bCells_len, bCells_drop, bCells_take, bCells_app, bCells_one, bCells_plain, List.length_replicate, List.length_append, List.length_take, List.length_drop, List.take_length, and_true, true_and, and_self, decide_true, List.length_nil, List.length_cons, Nat.sub_zero, dB_mk, dB_ro, List.take_zero, toNat_cast, e0, e1, e2, f0, f1, f2, z1, z2, z3, y1, y2, y3, a0, a1, a2, a3, b0, b1, b2, b3, brD, hp1, hq1, zQ_mk]
    have hva : vw a[i] = (a[i].t, a[i].f, a[i].s, p) := by unfold vw gB; rw [hp1, bCells_bOf]
    have hvb : vw b[i] = (b[i].t, b[i].f, b[i].s, q) := by unfold vw gB; rw [hq1, bCells_bOf]
    have ne : vw a[i] ≠ vw b[i] → a.map vw ≠ b.map vw := fun hn e => hn (by
      have := congrArg (fun l => l[i]?) e
      simp only [List.getElem?_map, List.getElem?_eq_getElem ha, List.getElem?_eq_getElem hb, Option.map_some, Option.some.injEq] at this
      exact this)
    rw [hva, hvb] at ne
    refine br_intro (fun h => ⟨(), ne (by simp at h; simp [h]), enH_pl _, enH_pl _⟩) (fun h => br_intro (fun h' => ⟨(), ne (by simp at h'; simp [h']), enH_pl _, enH_pl _⟩) (fun h' => br_intro (fun h'' => ⟨(), ne (by simp at h''; simp [h'']), enH_pl _, enH_pl _⟩) (fun h'' => ⟨⟨⟨lp, lq⟩, isB_mk _ _ hp2.symm, isB_mk _ _ hq2.symm, by omega⟩, br_intro (fun h3 => ⟨(), ne (by simp at h3; simp [h3]), enH_pl _, enH_pl _⟩) (fun h3 => ⟨i + 1, ⟨by omega, ?_⟩, by omega, (i64_succ (by omega)).symm, enH_pl _, enH_pl _⟩)⟩)))
    simp at h h' h'' h3
    rw [List.take_add_one, List.take_add_one, List.map_append, List.map_append, h6, List.getElem?_eq_getElem ha, List.getElem?_eq_getElem hb]
    simp only [Option.toList_some, List.map_cons, List.map_nil]
    rw [hva, hvb, h, h', h'', h3]
  · simp only [ofNat_eq, toNat_cast, Nat.zero_add, Nat.add_zero, Nat.mul_one, List.drop_zero, bCells_len, bCells_drop, bCells_take, bCells_app, bCells_one, bCells_plain, List.length_replicate, List.length_append, List.length_take, List.length_drop, List.take_length, and_true, true_and, and_self, decide_true, List.length_nil, List.length_cons, Nat.sub_zero, dB_mk, dB_ro, List.take_zero]
    have : i = a.length := by have : ¬ (i : Int) < (a.length : Int) := hlt; omega
    subst this
    refine ⟨(), ?_, enH_pl _, enH_pl _⟩
    rwa [List.take_length, h1, List.take_length] at h6
theorem S_con (a b : List Gf) (ha : a.length ≤ maxLen) (h3 : ∀ x ∈ a, FOk x) (h4 : ∀ x ∈ b, FOk x) : Con Try.prog 16 [slc4 0 a.length, slc4 1 b.length] [gRo enH a, gRo enH b] (.bool (decide (a.map vw = b.map vw))) [gRo enH a, gRo enH b] := by
  refine con_vc (E := EtS) mixed (calls_envT tS_ok) (lok_envT _ _) (M := mS) (lm_one S_piece) (S_vc a b _) ?_
  simp only [ofNat_eq, toNat_cast, Nat.zero_add, Nat.add_zero, Nat.mul_one, List.drop_zero, bCells_len, bCells_drop, bCells_take, bCells_app, bCells_one, bCells_plain, List.length_replicate, List.length_append, List.length_take, List.length_drop, List.take_length, and_true, true_and, and_self, decide_true, List.length_nil, List.length_cons, Nat.sub_zero, dB_mk, dB_ro, List.take_zero]
  refine br_intro (fun h => ?_) (fun h => ?_)
  · refine ⟨decide_eq_false (fun e => ?_), enH_pl _, enH_pl _⟩
    have := congrArg List.length e
    rw [List.length_map, List.length_map] at this
    rw [this] at h; simp at h
  · have hl : a.length = b.length := by simp at h; omega
    exact ⟨⟨a, b⟩, ⟨hl, ha, h3, h4⟩, rfl, rfl, rfl, enH_pl _, rfl, enH_pl _, fun side => br_side (fun y hy => ⟨decide_eq_true hy, rfl, enH_pl _, rfl, enH_pl _⟩) (fun y hy => ⟨decide_eq_false hy, rfl, enH_pl _, rfl, enH_pl _⟩) side⟩
theorem enH_inj : ∀ {a b : List Gf}, gC enH a = gC enH b → a = b := by
  intro a
  induction a with
  | nil =>
    intro b h
    cases b with
    | nil => rfl
    | cons y b => rw [gC_cons] at h; simp [gC, enH] at h
  | cons x a ih =>
    intro b h
    cases b with
    | nil => rw [gC_cons] at h; simp [gC, enH] at h
    | cons y b =>
      rw [gC_cons, gC_cons] at h
      obtain ⟨h1, h2⟩ := List.append_inj h rfl
      have := ih h2
      subst this
      obtain ⟨t, f, s, z, o, n⟩ := x
      obtain ⟨t', f', s', z', o', n'⟩ := y
      simp only [enH, List.cons.injEq, Value.int.injEq, Value.slice.injEq, Option.some.injEq, Addr.mk.injEq, true_and, and_true] at h1
      obtain ⟨rfl, rfl, rfl, ⟨rfl, rfl⟩, rfl⟩ := h1
      rfl
theorem zF_mk (a b : List Gf) (x y : Bool) : zF ⟨gC enH a, x, .cells true⟩ ⟨gC enH b, y, .cells true⟩ = decide (a.map vw = b.map vw) := by
  unfold zF
  rw [Classical.choose_spec (bq_ex _)]
  simp only
  by_cases h : a.map vw = b.map vw
  · rw [if_pos ⟨a, b, rfl, rfl, h⟩, decide_eq_true h]
  · rw [if_neg, decide_eq_false h]
    rintro ⟨a', b', h1, h2, h3⟩
    exact h (by rw [enH_inj h1, enH_inj h2]; exact h3)
theorem eSameF_ok : EntOk Try.prog eSameF := entC_ok (by
  intro a rows p v news h hp
  split at h <;> simp only [Option.some.injEq, Prod.mk.injEq, reduceCtorEq] at h
  obtain ⟨rfl, rfl, rfl⟩ := h
  obtain ⟨⟨x, rfl, rfl, hx⟩, ⟨y, rfl, rfl, hy⟩, h3⟩ := hp
  unfold gRo
  rw [zF_mk]
  exact S_con x y h3 hx hy)
end Go.Proofs.Ytkeiogmapogpnaa.fe
