/- Rows of talks: are they not too large, and what they come to. -/
import Derived.Test.YtgfidcdkjnnlgaaSz9
import Derived.Test.YtgfidcdkjnnlgaaRows
import Derived.Test.YtgfidcdkjnnlgaaLlawLd
set_option linter.unusedSimpArgs false
set_option linter.unusedVariables false
namespace Go.Proofs.Ytgfidcdkjnnlgaa.tk
open Go Go.Ev Go.Sy Go.RowKit Go.Proofs.Ytgfidcdkjnnlgaa.gl
structure Tg where
  p : Int
  l : Int
  s : Int
  z : Nat
  o : Nat
  n : Nat
  b : ByteArray
  e : Bool
  r : Bool
  c : Int
  a : Int
noncomputable def enT (x : Tg) : List Value := [.int .i64 x.p, .int .i64 x.l, .int .i64 x.s, .slice (some ⟨x.z, x.o, some 0⟩) x.n 2, .string x.b, .bool x.e, .bool x.r, .int .i64 x.c, .int .i64 x.a]
noncomputable def shT (x : Tg) : List Value := ((gCells x.z).drop x.o).take (x.n * 2)
noncomputable def fT (x : Tg) : List Fl := decF (shT x)
def TOk (x : Tg) : Prop := ∃ f, shT x = gC enF f ∧ f.length = x.n ∧ x.n ≤ 1048576 ∧ ShortF f ∧ x.o + x.n * 2 ≤ (gCells x.z).length
noncomputable def kdT (x : Tg) : Nat := if x.r then 1 else if x.e then (if ownL (fT x) (L x.b) then 2 else if storL (fT x) (L x.b) then 3 else 4) else 5
noncomputable def cn (k : Nat) (l : List Tg) : Nat := l.countP (fun x => decide (kdT x = k))
noncomputable def liL (l : List Tg) : Bool := decide ((∀ x ∈ l, lgB (fT x) = true) ∧ l.length ≤ 40)
def slT (r n : Nat) : Value := .slice (some ⟨r, 0, none⟩) n 9
def IsT (r : Row) (n : Nat) : Prop := ∃ l : List Tg, r = gRo enT l ∧ n = l.length ∧ n ≤ 1048576 ∧ ∀ x ∈ l, TOk x
theorem rb_ex (f : Row → Bool) : ∃ g, g = f := ⟨f, rfl⟩
theorem rk_ex (f : Nat → Row → Int) : ∃ g, g = f := ⟨f, rfl⟩
open Classical in
noncomputable def zLi : Row → Bool := Classical.choose (rb_ex fun r => if ∃ l, r.cells = gC enT l ∧ liL l = true then true else false)
open Classical in
noncomputable def zCn : Nat → Row → Int := Classical.choose (rk_ex fun k r => if h : ∃ l, r.cells = gC enT l then ((cn k (Classical.choose h) : Nat) : Int) else 0)
open Classical in
noncomputable def zWh : Nat → Row → Int := Classical.choose (rk_ex fun _ r => if h : ∃ l, r.cells = gC enT l then ((cn 2 (Classical.choose h) + cn 3 (Classical.choose h) + cn 4 (Classical.choose h) : Nat) : Int) else 0)
noncomputable def eLi : EntM := entC 16 fun a r => match a, r with
  | [.slice (some ⟨0, 0, none⟩) n 9], [r0] => some (IsT r0 n, .bool (zLi r0), [])
  | _, _ => none
noncomputable def eSu : EntM := entC 7 fun a r => match a, r with
  | [.slice (some ⟨0, 0, none⟩) n 9], [r0] => some (IsT r0 n, .agg ⟨[.int .i64 (zWh 0 r0), .int .i64 (zCn 1 r0), .int .i64 (zCn 2 r0), .int .i64 (zCn 3 r0), .int .i64 (zCn 4 r0), .int .i64 (zCn 5 r0)]⟩, [])
  | _, _ => none
def pLi : List Nat := [0, 1, 0, 1]
def slLi (l : List Tg) (i : Nat) : List (Nat × Value) := [(0, slT 0 l.length), (3, .int .i64 (i : Nat))]
noncomputable def rlLi (l : List Tg) : List (Nat × Row) := [(0, gRo enT l)]
def AllLi (l : List Tg) : Prop := ∀ x ∈ l, lgB (fT x) = true
noncomputable def wsLi (l : List Tg) : List (Gate Unit) := [⟨.exit 0, fun _ => AllLi l, fun _ => [(0, slT 0 l.length)], fun _ => rlLi l, 1⟩, ⟨.ret, fun _ => ¬ AllLi l, fun _ => [(2, .bool false)], fun _ => rlLi l, 1⟩]
noncomputable def specLi : Sy.Spec := specOf 1 1 20 (fun l : List Tg => l.length ≤ 1048576 ∧ ∀ x ∈ l, TOk x) (fun l => slLi l 0) rlLi wsLi
noncomputable def mLi := mOf [(16, pLi, specLi)]
def pSu : List Nat := [0, 1, 0, 1, 1]
structure Su where
  i : Nat
  w : Nat
  r : Nat
  o : Nat
  s : Nat
  p : Nat
  n : Nat
def talC (s : Su) : List Value := [.int .i64 (s.w : Nat), .int .i64 (s.r : Nat), .int .i64 (s.o : Nat), .int .i64 (s.s : Nat), .int .i64 (s.p : Nat), .int .i64 (s.n : Nat)]
def talZ : List Value := [.int .i64 0, .int .i64 0, .int .i64 0, .int .i64 0, .int .i64 0, .int .i64 0]
def slSu (l : List Tg) (s : Su) : List (Nat × Value) := [(2, .pointer (some ⟨1, 0, none⟩)), (3, .pointer (some ⟨2, 0, none⟩)), (6, slT 0 l.length), (7, .int .i64 (l.length : Nat)), (8, .int .i64 (s.i : Nat))]
noncomputable def rlSu (l : List Tg) (s : Su) : List (Nat × Row) := [(0, gRo enT l), (1, ⟨talZ, false, .cells false⟩), (2, ⟨talC s, false, .cells false⟩)]
def SuAt (l : List Tg) (s : Su) : Prop := s.r = cn 1 l ∧ s.o = cn 2 l ∧ s.s = cn 3 l ∧ s.p = cn 4 l ∧ s.n = cn 5 l ∧ s.w = cn 2 l + cn 3 l + cn 4 l
noncomputable def wsSu (l : List Tg) : List (Gate Su) := [⟨.exit 0, fun s => SuAt l s, fun _ => [(2, .pointer (some ⟨1, 0, none⟩)), (3, .pointer (some ⟨2, 0, none⟩))], fun s => rlSu l s, 3⟩]
def su0 : Su := ⟨0, 0, 0, 0, 0, 0, 0⟩
noncomputable def specSu : Sy.Spec := specOf 1 3 51 (fun l : List Tg => l.length ≤ 1048576 ∧ ∀ x ∈ l, TOk x) (fun l => slSu l su0) (fun l => rlSu l su0) wsSu
noncomputable def mSu := mOf [(7, pSu, specSu)]
noncomputable def tLi : List EntM := [eLgt]
noncomputable abbrev EtLi : Env := envT Try.prog tLi
noncomputable def tSu : List EntM := [eOw, eSd]
noncomputable abbrev EtSu : Env := envT Try.prog tSu
theorem Li_round (l : List Tg) (i : Nat) (Inv : Nat → Prop) (q : Nat → Nat) : mev EtLi noM 60 16 (0 :: pLi) false (codeOf Try.prog 16 (0 :: pLi)) ⟨mkOv (slLi l i), 20, []⟩ none ⟨mkR (rlLi l), 1⟩ (roundK 1 1 20 Inv q (fun i => slLi l i) (fun _ => rlLi l) (wsLi l) i) =
  (br (decide ((↑i : Int) < Int.ofNat (List.length l))) (br (decide ((0 : Int) <= (↑i : Int) /\ (↑i : Int) < (↑(List.length l) : Int))) ((Eq (α := Option Value) ((gC enT
  l)[0 + Int.toNat (↑i : Int) * 9 + 3]?) (some (Value.slice (some (Addr.mk (cellZ (gC enT l) (0 + Int.toNat (↑i : Int) * 9 + 3)) (cellO (gC enT l) (0 + Int.toNat (↑i : Int)
  * 9 + 3)) (some 0))) (cellN (gC enT l) (0 + Int.toNat (↑i : Int) * 9 + 3)) 2))) /\ ((((cellO (gC enT l) (0 + Int.toNat (↑i : Int) * 9 + 3) + cellN (gC enT l) (0 +
  Int.toNat (↑i : Int) * 9 + 3) * 2 <= List.length (gCells (cellZ (gC enT l) (0 + Int.toNat (↑i : Int) * 9 + 3))) /\ True) /\ ((True /\ True) /\ (True /\ (IsF (Row.mk
  (List.take (cellN (gC enT l) (0 + Int.toNat (↑i : Int) * 9 + 3) * 2) (List.drop (cellO (gC enT l) (0 + Int.toNat (↑i : Int) * 9 + 3)) (gCells (cellZ (gC enT l) (0 +
  Int.toNat (↑i : Int) * 9 + 3))))) true (Ob.cells true)) (cellN (gC enT l) (0 + Int.toNat (↑i : Int) * 9 + 3)) /\ (cellN (gC enT l) (0 + Int.toNat (↑i : Int) * 9 + 3) <=
  1048576 /\ ShR (Row.mk (List.take (cellN (gC enT l) (0 + Int.toNat (↑i : Int) * 9 + 3) * 2) (List.drop (cellO (gC enT l) (0 + Int.toNat (↑i : Int) * 9 + 3)) (gCells (cellZ
  (gC enT l) (0 + Int.toNat (↑i : Int) * 9 + 3))))) true (Ob.cells true)))))))) /\ (br (!lgR (Row.mk (List.take (cellN (gC enT l) (0 + Int.toNat (↑i : Int) * 9 + 3) * 2)
  (List.drop (cellO (gC enT l) (0 + Int.toNat (↑i : Int) * 9 + 3)) (gCells (cellZ (gC enT l) (0 + Int.toNat (↑i : Int) * 9 + 3))))) true (Ob.cells true))) (∃ y : Unit,
  ((¬AllLi l) /\ ((false = false) /\ ((Eq (α := List Value) (gC enT l) (gC enT l)) /\ ((Plain (gC enT l)) /\ True))))) (∃ j : Nat, ((Inv j) /\ ((q j < q i) /\ ((0 = 0) /\
  ((List.length l = List.length l) /\ (((↑j : Int) = IntKind.wrap IntKind.i64 ((↑i : Int) + (1 : Int))) /\ ((Eq (α := List Value) (gC enT l) (gC enT l)) /\ ((Plain (gC enT
  l)) /\ True))))))))))) False) (∃ y : Unit, ((AllLi l) /\ ((0 = 0) /\ ((List.length l = List.length l) /\ ((Eq (α := List Value) (gC enT l) (gC enT l)) /\ ((Plain (gC enT
  l)) /\ True))))))) := by kernel_rfl
theorem Li_vc (l : List Tg) (v : Bool) : mcall EtLi mLi 60 16 [slT 0 l.length] ⟨mkR (nums 0 [gRo enT l]), 1⟩ (retIs 1 (.bool v) [gRo enT l]) =
  (∃ g : List Tg, ((List.length g <= 1048576 /\ ∀ (x : Tg), x ∈ g → TOk x) /\ ((0 = 0) /\ ((List.length g = List.length l) /\ (((0 : Int) = (0 : Int)) /\ ((Eq (α := List
  Value) (gC enT g) (gC enT l)) /\ ((Plain (gC enT g)) /\ (∀ (side : Bool), (br (side) (∀ (y : Unit), ((AllLi g) → ((v = decide (Int.ofNat (List.length g) <= (40 : Int))) /\
  ((Eq (α := List Value) (gC enT l) (gC enT g)) /\ ((Plain (gC enT l)) /\ True))))) (∀ (y : Unit), ((¬AllLi g) → ((v = false) /\ ((Eq (α := List Value) (gC enT l) (gC enT
  g)) /\ ((Plain (gC enT l)) /\ True)))))))))))))) := by kernel_rfl
theorem Su_round (l : List Tg) (s : Su) (Inv : Su → Prop) (q : Su → Nat) : mev EtSu noM 60 7 (0 :: pSu) false (codeOf Try.prog 7 (0 :: pSu)) ⟨mkOv (slSu l s), 51, []⟩ none ⟨mkR (rlSu l s), 3⟩ (roundK 1 3 51 Inv q (fun s => slSu l s) (fun s => rlSu l s) (wsSu l) s) =
  (br (decide ((↑s.1 : Int) < (↑(List.length l) : Int))) (br (decide ((0 : Int) <= (↑s.1 : Int) /\ (↑s.1 : Int) < (↑(List.length l) : Int))) ((Eq (α := Option Value) ((gC
  enT l)[0 + Int.toNat (↑s.1 : Int) * 9]?) (some (Value.int IntKind.i64 (cellI (gC enT l) (0 + Int.toNat (↑s.1 : Int) * 9))))) /\ ((Eq (α := Option Value) ((gC enT l)[0 +
  Int.toNat (↑s.1 : Int) * 9 + 1]?) (some (Value.int IntKind.i64 (cellI (gC enT l) (0 + Int.toNat (↑s.1 : Int) * 9 + 1))))) /\ ((Eq (α := Option Value) ((gC enT l)[0 +
  Int.toNat (↑s.1 : Int) * 9 + 1 + 1]?) (some (Value.int IntKind.i64 (cellI (gC enT l) (0 + Int.toNat (↑s.1 : Int) * 9 + 1 + 1))))) /\ ((Eq (α := Option Value) ((gC enT l)[0
  + Int.toNat (↑s.1 : Int) * 9 + 1 + 1 + 1]?) (some (Value.slice (some (Addr.mk (cellZ (gC enT l) (0 + Int.toNat (↑s.1 : Int) * 9 + 1 + 1 + 1)) (cellO (gC enT l) (0 +
  Int.toNat (↑s.1 : Int) * 9 + 1 + 1 + 1)) (some 0))) (cellN (gC enT l) (0 + Int.toNat (↑s.1 : Int) * 9 + 1 + 1 + 1)) 2))) /\ ((Eq (α := Option Value) ((gC enT l)[0 +
  Int.toNat (↑s.1 : Int) * 9 + 1 + 1 + 1 + 1]?) (some (Value.string (cellS (gC enT l) (0 + Int.toNat (↑s.1 : Int) * 9 + 1 + 1 + 1 + 1))))) /\ ((Eq (α := Option Value) ((gC
  enT l)[0 + Int.toNat (↑s.1 : Int) * 9 + 1 + 1 + 1 + 1 + 1]?) (some (Value.bool (cellB (gC enT l) (0 + Int.toNat (↑s.1 : Int) * 9 + 1 + 1 + 1 + 1 + 1))))) /\ ((Eq (α :=
  Option Value) ((gC enT l)[0 + Int.toNat (↑s.1 : Int) * 9 + 1 + 1 + 1 + 1 + 1 + 1]?) (some (Value.bool (cellB (gC enT l) (0 + Int.toNat (↑s.1 : Int) * 9 + 1 + 1 + 1 + 1 + 1
  + 1))))) /\ ((Eq (α := Option Value) ((gC enT l)[0 + Int.toNat (↑s.1 : Int) * 9 + 1 + 1 + 1 + 1 + 1 + 1 + 1]?) (some (Value.int IntKind.i64 (cellI (gC enT l) (0 +
  Int.toNat (↑s.1 : Int) * 9 + 1 + 1 + 1 + 1 + 1 + 1 + 1))))) /\ ((Eq (α := Option Value) ((gC enT l)[0 + Int.toNat (↑s.1 : Int) * 9 + 1 + 1 + 1 + 1 + 1 + 1 + 1 + 1]?) (some
  (Value.int IntKind.i64 (cellI (gC enT l) (0 + Int.toNat (↑s.1 : Int) * 9 + 1 + 1 + 1 + 1 + 1 + 1 + 1 + 1))))) /\ (br (cellB (gC enT l) (0 + Int.toNat (↑s.1 : Int) * 9 + 1
  + 1 + 1 + 1 + 1 + 1)) (∃ j : Su, ((Inv j) /\ ((q j < q s) /\ ((0 = 0) /\ ((0 = 0) /\ ((0 = 0) /\ ((List.length l = List.length l) /\ (((↑(List.length l) : Int) =
  (↑(List.length l) : Int)) /\ (((↑j.1 : Int) = IntKind.wrap IntKind.i64 ((↑s.1 : Int) + (1 : Int))) /\ ((Eq (α := List Value) (gC enT l) (gC enT l)) /\ ((Plain (gC enT l))
  /\ (((0 : Int) = (0 : Int)) /\ (((0 : Int) = (0 : Int)) /\ (((0 : Int) = (0 : Int)) /\ (((0 : Int) = (0 : Int)) /\ (((0 : Int) = (0 : Int)) /\ (((0 : Int) = (0 : Int)) /\
  (((↑j.2 : Int) = (↑s.2 : Int)) /\ (((↑j.3 : Int) = IntKind.wrap IntKind.i64 ((↑s.3 : Int) + (1 : Int))) /\ (((↑j.4 : Int) = (↑s.4 : Int)) /\ (((↑j.5 : Int) = (↑s.5 : Int))
  /\ (((↑j.6 : Int) = (↑s.6 : Int)) /\ (((↑j.7 : Int) = (↑s.7 : Int)) /\ True))))))))))))))))))))))) (br (!cellB (gC enT l) (0 + Int.toNat (↑s.1 : Int) * 9 + 1 + 1 + 1 + 1 +
  1)) (∃ j : Su, ((Inv j) /\ ((q j < q s) /\ ((0 = 0) /\ ((0 = 0) /\ ((0 = 0) /\ ((List.length l = List.length l) /\ (((↑(List.length l) : Int) = (↑(List.length l) : Int))
  /\ (((↑j.1 : Int) = IntKind.wrap IntKind.i64 ((↑s.1 : Int) + (1 : Int))) /\ ((Eq (α := List Value) (gC enT l) (gC enT l)) /\ ((Plain (gC enT l)) /\ (((0 : Int) = (0 :
  Int)) /\ (((0 : Int) = (0 : Int)) /\ (((0 : Int) = (0 : Int)) /\ (((0 : Int) = (0 : Int)) /\ (((0 : Int) = (0 : Int)) /\ (((0 : Int) = (0 : Int)) /\ (((↑j.2 : Int) = (↑s.2
  : Int)) /\ (((↑j.3 : Int) = (↑s.3 : Int)) /\ (((↑j.4 : Int) = (↑s.4 : Int)) /\ (((↑j.5 : Int) = (↑s.5 : Int)) /\ (((↑j.6 : Int) = (↑s.6 : Int)) /\ (((↑j.7 : Int) =
  IntKind.wrap IntKind.i64 ((↑s.7 : Int) + (1 : Int))) /\ True))))))))))))))))))))))) (((((True /\ (True /\ (True /\ (cellO (gC enT l) (0 + Int.toNat (↑s.1 : Int) * 9 + 1 +
  1 + 1) + cellN (gC enT l) (0 + Int.toNat (↑s.1 : Int) * 9 + 1 + 1 + 1) * 2 <= List.length (gCells (cellZ (gC enT l) (0 + Int.toNat (↑s.1 : Int) * 9 + 1 + 1 + 1))) /\ (True
  /\ (True /\ (True /\ (True /\ (True /\ True))))))))) /\ True) /\ ((True /\ True) /\ (True /\ (IsF (Row.mk (List.take (cellN (gC enT l) (0 + Int.toNat (↑s.1 : Int) * 9 + 1
  + 1 + 1) * 2) (List.drop (cellO (gC enT l) (0 + Int.toNat (↑s.1 : Int) * 9 + 1 + 1 + 1)) (gCells (cellZ (gC enT l) (0 + Int.toNat (↑s.1 : Int) * 9 + 1 + 1 + 1))))) true
  (Ob.cells true)) (cellN (gC enT l) (0 + Int.toNat (↑s.1 : Int) * 9 + 1 + 1 + 1)) /\ cellN (gC enT l) (0 + Int.toNat (↑s.1 : Int) * 9 + 1 + 1 + 1) <=
  9223372036854775807))))) /\ (br (ownR (Row.mk (List.take (cellN (gC enT l) (0 + Int.toNat (↑s.1 : Int) * 9 + 1 + 1 + 1) * 2) (List.drop (cellO (gC enT l) (0 + Int.toNat
  (↑s.1 : Int) * 9 + 1 + 1 + 1)) (gCells (cellZ (gC enT l) (0 + Int.toNat (↑s.1 : Int) * 9 + 1 + 1 + 1))))) true (Ob.cells true)) (cellS (gC enT l) (0 + Int.toNat (↑s.1 :
  Int) * 9 + 1 + 1 + 1 + 1))) (∃ j : Su, ((Inv j) /\ ((q j < q s) /\ ((0 = 0) /\ ((0 = 0) /\ ((0 = 0) /\ ((List.length l = List.length l) /\ (((↑(List.length l) : Int) =
  (↑(List.length l) : Int)) /\ (((↑j.1 : Int) = IntKind.wrap IntKind.i64 ((↑s.1 : Int) + (1 : Int))) /\ ((Eq (α := List Value) (gC enT l) (gC enT l)) /\ ((Plain (gC enT l))
  /\ (((0 : Int) = (0 : Int)) /\ (((0 : Int) = (0 : Int)) /\ (((0 : Int) = (0 : Int)) /\ (((0 : Int) = (0 : Int)) /\ (((0 : Int) = (0 : Int)) /\ (((0 : Int) = (0 : Int)) /\
  (((↑j.2 : Int) = IntKind.wrap IntKind.i64 ((↑s.2 : Int) + (1 : Int))) /\ (((↑j.3 : Int) = (↑s.3 : Int)) /\ (((↑j.4 : Int) = IntKind.wrap IntKind.i64 ((↑s.4 : Int) + (1 :
  Int))) /\ (((↑j.5 : Int) = (↑s.5 : Int)) /\ (((↑j.6 : Int) = (↑s.6 : Int)) /\ (((↑j.7 : Int) = (↑s.7 : Int)) /\ True))))))))))))))))))))))) (((((True /\ (True /\ (True /\
  (cellO (gC enT l) (0 + Int.toNat (↑s.1 : Int) * 9 + 1 + 1 + 1) + cellN (gC enT l) (0 + Int.toNat (↑s.1 : Int) * 9 + 1 + 1 + 1) * 2 <= List.length (gCells (cellZ (gC enT l)
  (0 + Int.toNat (↑s.1 : Int) * 9 + 1 + 1 + 1))) /\ (True /\ (True /\ (True /\ (True /\ (True /\ True))))))))) /\ True) /\ ((True /\ True) /\ (True /\ (IsF (Row.mk
  (List.take (cellN (gC enT l) (0 + Int.toNat (↑s.1 : Int) * 9 + 1 + 1 + 1) * 2) (List.drop (cellO (gC enT l) (0 + Int.toNat (↑s.1 : Int) * 9 + 1 + 1 + 1)) (gCells (cellZ
  (gC enT l) (0 + Int.toNat (↑s.1 : Int) * 9 + 1 + 1 + 1))))) true (Ob.cells true)) (cellN (gC enT l) (0 + Int.toNat (↑s.1 : Int) * 9 + 1 + 1 + 1)) /\ cellN (gC enT l) (0 +
  Int.toNat (↑s.1 : Int) * 9 + 1 + 1 + 1) <= 9223372036854775807))))) /\ (br (storR (Row.mk (List.take (cellN (gC enT l) (0 + Int.toNat (↑s.1 : Int) * 9 + 1 + 1 + 1) * 2)
  (List.drop (cellO (gC enT l) (0 + Int.toNat (↑s.1 : Int) * 9 + 1 + 1 + 1)) (gCells (cellZ (gC enT l) (0 + Int.toNat (↑s.1 : Int) * 9 + 1 + 1 + 1))))) true (Ob.cells true))
  (cellS (gC enT l) (0 + Int.toNat (↑s.1 : Int) * 9 + 1 + 1 + 1 + 1))) (∃ j : Su, ((Inv j) /\ ((q j < q s) /\ ((0 = 0) /\ ((0 = 0) /\ ((0 = 0) /\ ((List.length l =
  List.length l) /\ (((↑(List.length l) : Int) = (↑(List.length l) : Int)) /\ (((↑j.1 : Int) = IntKind.wrap IntKind.i64 ((↑s.1 : Int) + (1 : Int))) /\ ((Eq (α := List Value)
  (gC enT l) (gC enT l)) /\ ((Plain (gC enT l)) /\ (((0 : Int) = (0 : Int)) /\ (((0 : Int) = (0 : Int)) /\ (((0 : Int) = (0 : Int)) /\ (((0 : Int) = (0 : Int)) /\ (((0 :
  Int) = (0 : Int)) /\ (((0 : Int) = (0 : Int)) /\ (((↑j.2 : Int) = IntKind.wrap IntKind.i64 ((↑s.2 : Int) + (1 : Int))) /\ (((↑j.3 : Int) = (↑s.3 : Int)) /\ (((↑j.4 : Int)
  = (↑s.4 : Int)) /\ (((↑j.5 : Int) = IntKind.wrap IntKind.i64 ((↑s.5 : Int) + (1 : Int))) /\ (((↑j.6 : Int) = (↑s.6 : Int)) /\ (((↑j.7 : Int) = (↑s.7 : Int)) /\
  True))))))))))))))))))))))) (∃ j : Su, ((Inv j) /\ ((q j < q s) /\ ((0 = 0) /\ ((0 = 0) /\ ((0 = 0) /\ ((List.length l = List.length l) /\ (((↑(List.length l) : Int) =
  (↑(List.length l) : Int)) /\ (((↑j.1 : Int) = IntKind.wrap IntKind.i64 ((↑s.1 : Int) + (1 : Int))) /\ ((Eq (α := List Value) (gC enT l) (gC enT l)) /\ ((Plain (gC enT l))
  /\ (((0 : Int) = (0 : Int)) /\ (((0 : Int) = (0 : Int)) /\ (((0 : Int) = (0 : Int)) /\ (((0 : Int) = (0 : Int)) /\ (((0 : Int) = (0 : Int)) /\ (((0 : Int) = (0 : Int)) /\
  (((↑j.2 : Int) = IntKind.wrap IntKind.i64 ((↑s.2 : Int) + (1 : Int))) /\ (((↑j.3 : Int) = (↑s.3 : Int)) /\ (((↑j.4 : Int) = (↑s.4 : Int)) /\ (((↑j.5 : Int) = (↑s.5 : Int))
  /\ (((↑j.6 : Int) = IntKind.wrap IntKind.i64 ((↑s.6 : Int) + (1 : Int))) /\ (((↑j.7 : Int) = (↑s.7 : Int)) /\ True)))))))))))))))))))))))))))))))))))))) False) (∃ y : Su,
  ((SuAt l y) /\ ((0 = 0) /\ ((0 = 0) /\ ((Eq (α := List Value) (gC enT l) (gC enT l)) /\ ((Plain (gC enT l)) /\ (((0 : Int) = (0 : Int)) /\ (((0 : Int) = (0 : Int)) /\ (((0
  : Int) = (0 : Int)) /\ (((0 : Int) = (0 : Int)) /\ (((0 : Int) = (0 : Int)) /\ (((0 : Int) = (0 : Int)) /\ (((↑y.2 : Int) = (↑s.2 : Int)) /\ (((↑y.3 : Int) = (↑s.3 : Int))
  /\ (((↑y.4 : Int) = (↑s.4 : Int)) /\ (((↑y.5 : Int) = (↑s.5 : Int)) /\ (((↑y.6 : Int) = (↑s.6 : Int)) /\ (((↑y.7 : Int) = (↑s.7 : Int)) /\ True))))))))))))))))))) := by kernel_rfl
theorem Su_vc (l : List Tg) (a b c d e f : Int) : mcall EtSu mSu 60 7 [slT 0 l.length] ⟨mkR (nums 0 [gRo enT l]), 1⟩ (retIs 1 (.agg ⟨[.int .i64 a, .int .i64 b, .int .i64 c, .int .i64 d, .int .i64 e, .int .i64 f]⟩) [gRo enT l]) =
  (∃ g : List Tg, ((List.length g <= 1048576 /\ ∀ (x : Tg), x ∈ g → TOk x) /\ ((0 = 0) /\ ((0 = 0) /\ ((0 = 0) /\ ((List.length g = List.length l) /\ (((↑(List.length g) :
  Int) = Int.ofNat (List.length l)) /\ (((0 : Int) = (0 : Int)) /\ ((Eq (α := List Value) (gC enT g) (gC enT l)) /\ ((Plain (gC enT g)) /\ (((0 : Int) = (0 : Int)) /\ (((0 :
  Int) = (0 : Int)) /\ (((0 : Int) = (0 : Int)) /\ (((0 : Int) = (0 : Int)) /\ (((0 : Int) = (0 : Int)) /\ (((0 : Int) = (0 : Int)) /\ (((0 : Int) = (0 : Int)) /\ (((0 :
  Int) = (0 : Int)) /\ (((0 : Int) = (0 : Int)) /\ (((0 : Int) = (0 : Int)) /\ (((0 : Int) = (0 : Int)) /\ (((0 : Int) = (0 : Int)) /\ (∀ (y : Su), ((SuAt g y) → ((a = (↑y.2
  : Int)) /\ ((b = (↑y.3 : Int)) /\ ((c = (↑y.4 : Int)) /\ ((d = (↑y.5 : Int)) /\ ((e = (↑y.6 : Int)) /\ ((f = (↑y.7 : Int)) /\ ((Eq (α := List Value) (gC enT l) (gC enT g))
  /\ ((Plain (gC enT l)) /\ True)))))))))))))))))))))))))))))))) := by kernel_rfl
theorem tLi_ok : ∀ x ∈ tLi, EntOk Try.prog x := all_cons eLgt_ok (all_nil)
theorem tSu_ok : ∀ x ∈ tSu, EntOk Try.prog x := all_cons eOw_ok (all_cons eSd_ok (all_nil))
theorem enT_k (x : Tg) : (enT x).length = 9 := rfl
theorem enT_pl (l : List Tg) : Plain (gC enT l) := gC_plain (fun a v hv => by
  unfold enT at hv
  simp only [List.mem_cons, List.mem_nil_iff, or_false] at hv
  rcases hv with rfl | rfl | rfl | rfl | rfl | rfl | rfl | rfl | rfl <;> rfl) l
theorem cT {l : List Tg} {i : Nat} (h : i < l.length) : (gC enT l)[i * 9]? = some (.int .i64 l[i].p) ∧ (gC enT l)[i * 9 + 1]? = some (.int .i64 l[i].l) ∧ (gC enT l)[i * 9 + 2]? = some (.int .i64 l[i].s) ∧ (gC enT l)[i * 9 + 3]? = some (.slice (some ⟨l[i].z, l[i].o, some 0⟩) l[i].n 2) ∧ (gC enT l)[i * 9 + 4]? = some (.string l[i].b) ∧ (gC enT l)[i * 9 + 5]? = some (.bool l[i].e) ∧ (gC enT l)[i * 9 + 6]? = some (.bool l[i].r) ∧ (gC enT l)[i * 9 + 7]? = some (.int .i64 l[i].c) ∧ (gC enT l)[i * 9 + 8]? = some (.int .i64 l[i].a) :=
  ⟨(gC_get0 enT_k l i h (by omega)).trans rfl, (gC_get enT_k l i 1 h (by omega)).trans rfl, (gC_get enT_k l i 2 h (by omega)).trans rfl, (gC_get enT_k l i 3 h (by omega)).trans rfl, (gC_get enT_k l i 4 h (by omega)).trans rfl, (gC_get enT_k l i 5 h (by omega)).trans rfl, (gC_get enT_k l i 6 h (by omega)).trans rfl, (gC_get enT_k l i 7 h (by omega)).trans rfl, (gC_get enT_k l i 8 h (by omega)).trans rfl⟩
theorem cI_of {l : List Value} {i : Nat} {k : IntKind} {n : Int} (h : l[i]? = some (.int k n)) : cellI l i = n := by unfold cellI; rw [h]
theorem cB_of {l : List Value} {i : Nat} {b : Bool} (h : l[i]? = some (.bool b)) : cellB l i = b := by unfold cellB; rw [h]
theorem cS_of {l : List Value} {i : Nat} {b : ByteArray} (h : l[i]? = some (.string b)) : cellS l i = b := by unfold cellS; rw [h]
theorem cZ_of {l : List Value} {i z o n e : Nat} (h : l[i]? = some (.slice (some ⟨z, o, some 0⟩) n e)) : cellZ l i = z ∧ cellO l i = o ∧ cellN l i = n := by unfold cellZ cellO cellN; rw [h]; exact ⟨rfl, rfl, rfl⟩
theorem enT_inj : ∀ {a b : List Tg}, gC enT a = gC enT b → a = b := by
  intro a
  induction a with
  | nil =>
    intro b h
    cases b with
    | nil => rfl
    | cons y b => rw [gC_cons] at h; simp [gC, enT] at h
  | cons x a ih =>
    intro b h
    cases b with
    | nil => rw [gC_cons] at h; simp [gC, enT] at h
    | cons y b =>
      rw [gC_cons, gC_cons] at h
      obtain ⟨h1, h2⟩ := List.append_inj h rfl
      have := ih h2
      subst this
      obtain ⟨p, l, s, z, o, n, b, e, r, c, a⟩ := x
      obtain ⟨p', l', s', z', o', n', b', e', r', c', a'⟩ := y
      simp only [enT, List.cons.injEq, Value.int.injEq, Value.bool.injEq, Value.string.injEq, Value.slice.injEq, Option.some.injEq, Addr.mk.injEq, true_and, and_true] at h1
      obtain ⟨rfl, rfl, rfl, ⟨⟨rfl, rfl⟩, rfl⟩, rfl, rfl, rfl, rfl, rfl⟩ := h1
      rfl
theorem zLi_mk (l : List Tg) (x : Bool) (o : Ob) : zLi ⟨gC enT l, x, o⟩ = liL l := by
  unfold zLi
  rw [Classical.choose_spec (rb_ex _)]
  simp only
  cases h : liL l with
  | true => rw [if_pos ⟨l, rfl, h⟩]
  | false => rw [if_neg (fun ⟨m, hm, h2⟩ => by rw [← enT_inj hm, h] at h2; simp at h2)]
theorem zCn_mk (k : Nat) (l : List Tg) (x : Bool) (o : Ob) : zCn k ⟨gC enT l, x, o⟩ = (cn k l : Nat) := by
  unfold zCn
  rw [Classical.choose_spec (rk_ex _)]
  simp only
  have h : ∃ m, gC enT l = gC enT m := ⟨l, rfl⟩
  rw [dif_pos h, ← enT_inj (Classical.choose_spec h)]
theorem zWh_mk (l : List Tg) (x : Bool) (o : Ob) : zWh 0 ⟨gC enT l, x, o⟩ = (cn 2 l + cn 3 l + cn 4 l : Nat) := by
  unfold zWh
  rw [Classical.choose_spec (rk_ex _)]
  simp only
  have h : ∃ m, gC enT l = gC enT m := ⟨l, rfl⟩
  rw [dif_pos h, ← enT_inj (Classical.choose_spec h)]
theorem cn_le (k : Nat) (l : List Tg) : cn k l ≤ l.length := List.countP_le_length
theorem cn_app (k : Nat) (a b : List Tg) : cn k (a ++ b) = cn k a + cn k b := List.countP_append
theorem cn_sing (k : Nat) (x : Tg) : cn k [x] = if kdT x = k then 1 else 0 := by unfold cn; rw [List.countP_cons, List.countP_nil]; simp
theorem cn_step (k : Nat) (l : List Tg) (i : Nat) (h : i < l.length) : cn k (l.take (i + 1)) = cn k (l.take i) + if kdT l[i] = k then 1 else 0 := by
  rw [List.take_add_one, List.getElem?_eq_getElem h, Option.toList_some, cn_app, cn_sing]
theorem Li_piece : PieceOk EtLi 1 (16, pLi, specLi) := by
  refine piece_loop mixed (calls_envT tLi_ok) (lok_envT _ _) lm_none (n := 60) (by kernel_rfl) (fun _ : List Tg => (0 : Nat)) (fun l i => i ≤ l.length ∧ ∀ x ∈ l.take i, lgB (fT x) = true) (fun l i => l.length - i) (sl := slLi) (rl := fun l _ => rlLi l) (fun l hg => ⟨Nat.zero_le _, fun x hx => by simp at hx⟩) (fun l i hg hi => ?_)
  refine (Li_round l i _ _).mpr ?_
  obtain ⟨g1, g2⟩ := hg
  obtain ⟨h1, h2⟩ := hi
  refine br_if (fun hlt => ?_) (fun hlt => ?_)
  · have hic : i < l.length := by have : (i : Int) < (l.length : Int) := hlt; omega
    obtain ⟨a0, a1, a2, a3, a4, a5, a6, a7, a8⟩ := cT hic
    obtain ⟨z1, z2, z3⟩ := cZ_of a3
    obtain ⟨f, t1, t2, t3, t4, t5⟩ := g2 l[i] (List.getElem_mem hic)
    have hf : fT l[i] = f := by unfold fT; rw [t1, decF_gC]
    unfold shT at t1
    simp (disch := omega) only [ofNat_eq, toNat_cast, Nat.zero_add, Nat.add_zero, Nat.mul_one, List.drop_zero, bCells_len, bCells_drop, bCells_take, bCells_app, bCells_one, bCells_plain, List.length_replicate, List.length_append, List.length_take, List.length_drop, List.take_length, and_true, true_and, and_self, decide_true, List.length_nil, List.length_cons, Nat.sub_zero, dB_mk, dB_ro, List.take_zero, toNat_cast, a3, z1, z2, z3, t1, n_lgR, n_shR, brT]
    refine ⟨⟨t5, isF_mk f _ t2.symm, t3, t4⟩, br_intro (fun h => ⟨(), fun h3 => ?_, enT_pl _⟩) (fun h => ⟨i + 1, ⟨by omega, fun x hx => ?_⟩, by omega, (i64_succ (by omega)).symm, enT_pl _⟩)⟩
    · have := h3 _ (List.getElem_mem hic)
      rw [hf] at this; rw [this] at h; simp at h
    · rw [List.take_add_one, List.getElem?_eq_getElem hic, Option.toList_some] at hx
      rcases List.mem_append.1 hx with hx | hx
      · exact h2 x hx
      · rw [List.mem_singleton] at hx; subst hx; rw [hf]; simpa using h
  · have : i = l.length := by have : ¬ (i : Int) < (l.length : Int) := hlt; omega
    subst this
    rw [List.take_length] at h2
    exact ⟨(), h2, by simp [enT_pl]⟩
theorem Li_con (l : List Tg) (hl : l.length ≤ 1048576) (h : ∀ x ∈ l, TOk x) : Con Try.prog 16 [slT 0 l.length] [gRo enT l] (.bool (liL l)) [gRo enT l] := by
  refine con_vc (E := EtLi) mixed (calls_envT tLi_ok) (lok_envT _ _) (M := mLi) (lm_one Li_piece) (Li_vc l _) ?_
  simp only [ofNat_eq, toNat_cast, Nat.zero_add, Nat.add_zero, Nat.mul_one, List.drop_zero, bCells_len, bCells_drop, bCells_take, bCells_app, bCells_one, bCells_plain, List.length_replicate, List.length_append, List.length_take, List.length_drop, List.take_length, and_true, true_and, and_self, decide_true, List.length_nil, List.length_cons, Nat.sub_zero, dB_mk, dB_ro, List.take_zero]
  refine ⟨l, ⟨hl, h⟩, rfl, rfl, enT_pl _, fun side => br_side (fun y hy => ⟨?_, rfl, enT_pl _⟩) (fun y hy => ⟨?_, rfl, enT_pl _⟩) side⟩
  · unfold liL
    by_cases h4 : l.length ≤ 40
    · rw [decide_eq_true ⟨hy, h4⟩, decide_eq_true (by omega)]
    · rw [decide_eq_false (fun h5 => h4 h5.2), decide_eq_false (by omega)]
  · exact decide_eq_false (fun h5 => hy h5.1)
theorem Su_piece : PieceOk EtSu 1 (7, pSu, specSu) := by
  refine piece_loop mixed (calls_envT tSu_ok) (lok_envT _ _) lm_none (n := 60) (by kernel_rfl) (fun _ : List Tg => su0) (fun l s => s.i ≤ l.length ∧ SuAt (l.take s.i) s) (fun l s => l.length - s.i) (sl := slSu) (rl := rlSu) (fun l hg => ⟨Nat.zero_le _, rfl, rfl, rfl, rfl, rfl, rfl⟩) (fun l s hg hi => ?_)
  refine (Su_round l s _ _).mpr ?_
  obtain ⟨g1, g2⟩ := hg
  obtain ⟨h1, q1, q2, q3, q4, q5, q6⟩ := hi
  refine br_if (fun hlt => ?_) (fun hlt => ?_)
  · have hic : s.i < l.length := by have : (s.i : Int) < (l.length : Int) := hlt; omega
    obtain ⟨a0, a1, a2, a3, a4, a5, a6, a7, a8⟩ := cT hic
    obtain ⟨z1, z2, z3⟩ := cZ_of a3
    have e0 := cI_of a0; have e1 := cI_of a1; have e2 := cI_of a2; have e4 := cS_of a4; have e5 := cB_of a5; have e6 := cB_of a6; have e7 := cI_of a7; have e8 := cI_of a8
    obtain ⟨f, t1, t2, t3, t4, t5⟩ := g2 l[s.i] (List.getElem_mem hic)
    have hf : fT l[s.i] = f := by unfold fT; rw [t1, decF_gC]
    unfold shT at t1
    have l1 := cn_le 1 (l.take s.i); have l2 := cn_le 2 (l.take s.i); have l3 := cn_le 3 (l.take s.i); have l4 := cn_le 4 (l.take s.i); have l5 := cn_le 5 (l.take s.i)
    rw [List.length_take] at l1 l2 l3 l4 l5
    have c1 := cn_step 1 l s.i hic; have c2 := cn_step 2 l s.i hic; have c3 := cn_step 3 l s.i hic; have c4 := cn_step 4 l s.i hic; have c5 := cn_step 5 l s.i hic
    have w0 : IntKind.i64.wrap ((s.i : Int) + 1) = ((s.i + 1 : Nat) : Int) := i64_succ (by omega)
    have w1 : IntKind.i64.wrap ((s.w : Int) + 1) = ((s.w + 1 : Nat) : Int) := i64_succ (by omega)
    have w2 : IntKind.i64.wrap ((s.r : Int) + 1) = ((s.r + 1 : Nat) : Int) := i64_succ (by omega)
    have w3 : IntKind.i64.wrap ((s.o : Int) + 1) = ((s.o + 1 : Nat) : Int) := i64_succ (by omega)
    have w4 : IntKind.i64.wrap ((s.s : Int) + 1) = ((s.s + 1 : Nat) : Int) := i64_succ (by omega)
    have w5 : IntKind.i64.wrap ((s.p : Int) + 1) = ((s.p + 1 : Nat) : Int) := i64_succ (by omega)
    have w6 : IntKind.i64.wrap ((s.n : Int) + 1) = ((s.n + 1 : Nat) : Int) := i64_succ (by omega)
    simp (disch := omega) only [ofNat_eq, toNat_cast, Nat.zero_add, Nat.add_zero, Nat.mul_one, List.drop_zero, bCells_len, bCells_drop, bCells_take, bCells_app, bCells_one, bCells_plain, List.length_replicate, List.length_append, List.length_take, List.length_drop, List.take_length, and_true, true_and, and_self, decide_true, List.length_nil, List.length_cons, Nat.sub_zero, dB_mk, dB_ro, List.take_zero, toNat_cast, a0, a1, a2, a3, a4, a5, a6, a7, a8, e0, e1, e2, e4, e5, e6, e7, e8, z1, z2, z3, t1, n_own, n_stor, brT, w0, w1, w2, w3, w4, w5, w6]
    have hm : l[s.i].n ≤ 9223372036854775807 := by omega
    refine br_intro (fun k1 => ?_) (fun k1 => br_intro (fun k2 => ?_) (fun k2 => ⟨⟨t5, isF_mk f _ t2.symm, hm⟩, br_intro (fun k3 => ?_) (fun k3 => ⟨⟨t5, isF_mk f _ t2.symm, hm⟩, br_intro (fun k4 => ?_) (fun k4 => ?_)⟩)⟩))
    · have hk : kdT l[s.i] = 1 := by unfold kdT; rw [k1]; rfl
      simp [hk] at c1 c2 c3 c4 c5
      exact ⟨⟨s.i + 1, s.w, s.r + 1, s.o, s.s, s.p, s.n⟩, ⟨by simp only; omega, by simp only; omega, by simp only; omega, by simp only; omega, by simp only; omega, by simp only; omega, by simp only; omega⟩, by simp only; omega, by simp [enT_pl]⟩
    · have hk : kdT l[s.i] = 5 := by unfold kdT; rw [k1]; simp at k2; rw [k2]; rfl
      simp [hk] at c1 c2 c3 c4 c5
      exact ⟨⟨s.i + 1, s.w, s.r, s.o, s.s, s.p, s.n + 1⟩, ⟨by simp only; omega, by simp only; omega, by simp only; omega, by simp only; omega, by simp only; omega, by simp only; omega, by simp only; omega⟩, by simp only; omega, by simp [enT_pl]⟩
    · have hk : kdT l[s.i] = 2 := by unfold kdT; rw [k1]; simp at k2; rw [k2, hf, k3]; rfl
      simp [hk] at c1 c2 c3 c4 c5
      exact ⟨⟨s.i + 1, s.w + 1, s.r, s.o + 1, s.s, s.p, s.n⟩, ⟨by simp only; omega, by simp only; omega, by simp only; omega, by simp only; omega, by simp only; omega, by simp only; omega, by simp only; omega⟩, by simp only; omega, by simp [enT_pl]⟩
    · have hk : kdT l[s.i] = 3 := by unfold kdT; rw [k1]; simp at k2; rw [k2, hf, k3, k4]; rfl
      simp [hk] at c1 c2 c3 c4 c5
      exact ⟨⟨s.i + 1, s.w + 1, s.r, s.o, s.s + 1, s.p, s.n⟩, ⟨by simp only; omega, by simp only; omega, by simp only; omega, by simp only; omega, by simp only; omega, by simp only; omega, by simp only; omega⟩, by simp only; omega, by simp [enT_pl]⟩
    · have hk : kdT l[s.i] = 4 := by unfold kdT; rw [k1]; simp at k2; rw [k2, hf, k3, k4]; rfl
      simp [hk] at c1 c2 c3 c4 c5
      exact ⟨⟨s.i + 1, s.w + 1, s.r, s.o, s.s, s.p + 1, s.n⟩, ⟨by simp only; omega, by simp only; omega, by simp only; omega, by simp only; omega, by simp only; omega, by simp only; omega, by simp only; omega⟩, by simp only; omega, by simp [enT_pl]⟩
  · have : s.i = l.length := by have : ¬ (s.i : Int) < (l.length : Int) := hlt; omega
    rw [this, List.take_length] at q1 q2 q3 q4 q5 q6
    exact ⟨s, ⟨q1, q2, q3, q4, q5, q6⟩, by simp [enT_pl]⟩
theorem Su_con (l : List Tg) (hl : l.length ≤ 1048576) (h : ∀ x ∈ l, TOk x) : Con Try.prog 7 [slT 0 l.length] [gRo enT l] (.agg ⟨[.int .i64 (cn 2 l + cn 3 l + cn 4 l : Nat), .int .i64 (cn 1 l : Nat), .int .i64 (cn 2 l : Nat), .int .i64 (cn 3 l : Nat), .int .i64 (cn 4 l : Nat), .int .i64 (cn 5 l : Nat)]⟩) [gRo enT l] := by
  refine con_vc (E := EtSu) mixed (calls_envT tSu_ok) (lok_envT _ _) (M := mSu) (lm_one Su_piece) (Su_vc l _ _ _ _ _ _) ?_
  simp only [ofNat_eq, toNat_cast, Nat.zero_add, Nat.add_zero, Nat.mul_one, List.drop_zero, bCells_len, bCells_drop, bCells_take, bCells_app, bCells_one, bCells_plain, List.length_replicate, List.length_append, List.length_take, List.length_drop, List.take_length, and_true, true_and, and_self, decide_true, List.length_nil, List.length_cons, Nat.sub_zero, dB_mk, dB_ro, List.take_zero]
  refine ⟨l, ⟨hl, h⟩, rfl, rfl, rfl, enT_pl _, fun y hy => ?_⟩
  obtain ⟨q1, q2, q3, q4, q5, q6⟩ := hy
  exact ⟨by rw [q6], by rw [q1], by rw [q2], by rw [q3], by rw [q4], by rw [q5], rfl, enT_pl _⟩
theorem eLi_ok : EntOk Try.prog eLi := entC_ok (by
  intro a rows p v news h hp
  split at h <;> simp only [Option.some.injEq, Prod.mk.injEq, reduceCtorEq] at h
  obtain ⟨rfl, rfl, rfl⟩ := h
  obtain ⟨l, rfl, rfl, h2, h3⟩ := hp
  unfold gRo
  rw [zLi_mk]
  exact Li_con l h2 h3)
theorem eSu_ok : EntOk Try.prog eSu := entC_ok (by
  intro a rows p v news h hp
  split at h <;> simp only [Option.some.injEq, Prod.mk.injEq, reduceCtorEq] at h
  obtain ⟨rfl, rfl, rfl⟩ := h
  obtain ⟨l, rfl, rfl, h2, h3⟩ := hp
  unfold gRo
  rw [zWh_mk, zCn_mk, zCn_mk, zCn_mk, zCn_mk, zCn_mk]
  exact Su_con l h2 h3)
end Go.Proofs.Ytgfidcdkjnnlgaa.tk
