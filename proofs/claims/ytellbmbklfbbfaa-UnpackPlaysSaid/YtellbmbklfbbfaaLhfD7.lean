/- Texts decoded. -/
import Derived.Test.YtellbmbklfbbfaaSz9
import Derived.Test.YtellbmbklfbbfaaRows
import Derived.Test.YtellbmbklfbbfaaLhfC7
set_option maxRecDepth 20000
set_option linter.unusedSimpArgs false
set_option linter.unusedVariables false
namespace Go.Proofs.Ytellbmbklfbbfaa.hf
open Go Go.Ev Go.Sy Go.RowKit Go.Proofs.Ytellbmbklfbbfaa.gl Go.Proofs.Ytellbmbklfbbfaa.tk
def symO (v n : Nat) : Option Nat := if fstN n ≤ v ∧ v - fstN n < cntN n then some (ordN (stN n + (v - fstN n))) else none
def stepD (s : List UInt8 × List Bool) (b : Bool) : Option (List UInt8 × List Bool) :=
  match symO (val (s.2 ++ [b])) (s.2.length + 1) with
  | none => some (s.1, s.2 ++ [b])
  | some y => if y = 256 then none else some (s.1 ++ [UInt8.ofNat y], [])
def decS : List Bool → List UInt8 × List Bool → Option (List UInt8 × List Bool)
  | [], s => some s
  | b :: l, s => (stepD s b).bind (decS l)
def bitB (l : List UInt8) : List Bool := l.flatMap fun c => bl 8 c.toNat
def decO (l : List UInt8) : Option (List UInt8 × List Bool) := decS (bitB l) ([], [])
def finD (s : List UInt8 × List Bool) : Option (List UInt8) := if s.2.length > 7 ∨ val s.2 ≠ 2 ^ s.2.length - 1 then none else some s.1
def decR (l : List UInt8) : Option (List UInt8) := (decO l).bind finD
def decT (l : List UInt8) : List UInt8 := (decR l).getD []
def decE (l : List UInt8) : Int := if (decR l).isSome then 0 else 4
def PI (R : List Bool) : Prop := R.length ≤ 29 ∧ cdN R.length ≤ val R
theorem bool_ex0 (l : List Bool) : ∃ v, v = l := ⟨l, rfl⟩
noncomputable def by8 (c : UInt8) : List Bool := Classical.choose (bool_ex0 (bl 8 c.toNat))
structure GD where
  l : List UInt8
  i : Nat
  c : UInt8
  o : List UInt8
  R : List Bool
def pD1 : List Nat := [0, 1, 0, 1, 1, 1, 1]
def pD2 : List Nat := [0, 1, 1, 0, 0, 1, 1, 0, 0, 1, 0, 1, 1, 1, 1]
def slD (l : List UInt8) (i : Nat) (y : List UInt8 × List Bool) : List (Nat × Value) := [(4, .pointer (some ⟨1, 0, none⟩)), (5, slc 2 y.1.length), (6, .int .i64 (val y.2 : Nat)), (7, .int .i64 (y.2.length : Nat)), (14, slc 0 l.length), (15, .int .i64 (l.length : Nat)), (16, .int .i64 (i : Nat))]
def slD1 (l : List UInt8) (s : Nat × List UInt8 × List Bool) : List (Nat × Value) := slD l s.1 s.2
def slD2 (g : GD) (s : Nat × List UInt8 × List Bool) : List (Nat × Value) := (9, .int .u8 ((g.c.toNat : Nat) : Int)) :: (10, .int .i64 (7 - ((s.1 : Nat) : Int))) :: slD g.l g.i s.2
noncomputable def rlD (l o : List UInt8) : List (Nat × Row) := [(0, bRo l), (1, ⟨bkC, false, .cells true⟩), (2, bOwn o)]
noncomputable def wsD1 (l : List UInt8) : List (Gate (List UInt8 × List Bool)) := [⟨.exit 0, fun y => decO l = some y ∧ y.2.length ≤ 29, fun y => [(5, slc 2 y.1.length), (6, .int .i64 (val y.2 : Nat)), (7, .int .i64 (y.2.length : Nat))], fun y => [(0, bRo l), (2, bOwn y.1)], 3⟩, ⟨.ret, fun _ => decO l = none, fun _ => [(2, .string ⟨#[]⟩), (3, .int .i64 4)], fun _ => [(0, bRo l)], 3⟩]
noncomputable def specD1 : Sy.Spec := specOf 1 3 62 (fun l : List UInt8 => l.length ≤ 1048576) (fun l => slD1 l (0, [], [])) (fun l => rlD l []) wsD1
noncomputable def wsD2 (g : GD) : List (Gate (List UInt8 × List Bool)) := [⟨.exit 2, fun y => decS (by8 g.c) (g.o, g.R) = some y ∧ PI y.2 ∧ y.1.length ≤ g.o.length + 8, fun y => slD g.l g.i y, fun y => rlD g.l y.1, 3⟩, ⟨.ret, fun _ => decS (by8 g.c) (g.o, g.R) = none, fun _ => [(2, .string ⟨#[]⟩), (3, .int .i64 4)], fun _ => [(0, bRo g.l)], 3⟩]
noncomputable def specD2 : Sy.Spec := specOf 1 3 62 (fun g : GD => PI g.R ∧ g.o.length ≤ 8388608) (fun g => slD2 g (0, g.o, g.R)) (fun g => rlD g.l g.o) wsD2
noncomputable def mD2 := mOf [(52, pD2, specD2)]
noncomputable def mD := mOf [(52, pD1, specD1)]
theorem D2_round (g : GD) (s : Nat × List UInt8 × List Bool) (Inv : Nat × List UInt8 × List Bool → Prop) (m : Nat × List UInt8 × List Bool → Nat) : mev EtC noM 60 52 (0 :: pD2) false (codeOf Try.prog 52 (0 :: pD2)) ⟨mkOv (slD2 g s), 62, []⟩ none ⟨mkR (rlD g.l s.2.1), 3⟩ (roundK 1 3 62 Inv m (slD2 g) (fun s => rlD g.l s.2.1) (wsD2 g) s) =
  let z2 := (IntKind.wrap IntKind.i64 ((↑(List.length s.2.2) : Int) + (1 : Int))); let z8 := (ishl IntKind.i64 (↑(val s.2.2) : Int) (1 : Int)); let z3 := (iand IntKind.i64
  (ishr IntKind.i64 (IntKind.wrap IntKind.i64 (↑(UInt8.toNat g.3) : Int)) ((7 : Int) - (↑s.1 : Int))) (1 : Int)); let z12 := (ior IntKind.i64 z8 z3 - cellI bkC (771 +
  Int.toNat z2 * 1)); let z1 := (cellI bkC (833 + Int.toNat z2 * 1) + IntKind.wrap IntKind.i64 z12); let z4 := (decide ((0 : Int) <= IntKind.wrap IntKind.i64 ((↑(List.length
  s.2.2) : Int) + (1 : Int)) /\ IntKind.wrap IntKind.i64 ((↑(List.length s.2.2) : Int) + (1 : Int)) < (31 : Int))); let z5 := (cellI bkC (514 + Int.toNat (IntKind.wrap
  IntKind.i64 z1) * 1)); let z6 := (Eq (α := List Value) (bCells g.1) (bCells g.1)); let z7 := ((↑(List.length g.1) : Int) = (↑(List.length g.1) : Int)); let z9 := (Eq (α :=
  Option Value) (bkC[833 + Int.toNat z2 * 1]?) (some (Value.int IntKind.i64 (cellI bkC (833 + Int.toNat z2 * 1))))); let z10 := (Eq (α := Option Value) (bkC[514 + Int.toNat
  (IntKind.wrap IntKind.i64 z1) * 1]?) (some (Value.int IntKind.i64 z5))); let z11 := ((↑(UInt8.toNat g.3) : Int) = (↑(UInt8.toNat g.3) : Int)); (br (decide ((7 : Int) -
  (↑s.1 : Int) ≥ (0 : Int))) (br (decide ((0 : Int) <= (7 : Int) - (↑s.1 : Int))) (br z4 ((Eq (α := Option Value) (bkC[771 + Int.toNat z2 * 1]?) (some (Value.int IntKind.i64
  (cellI bkC (771 + Int.toNat z2 * 1))))) /\ (br (decide (IntKind.wrap IntKind.i64 z12 < (0 : Int))) (∃ j : Nat × List UInt8 × List Bool, ((Inv j) /\ ((m j < m s) /\ (z11 /\
  (((7 : Int) - (↑j.1 : Int) = IntKind.wrap IntKind.i64 ((7 : Int) - (↑s.1 : Int) - (1 : Int))) /\ ((0 = 0) /\ ((0 = 0) /\ ((List.length j.2.1 = List.length s.2.1) /\
  (((↑(val j.2.2) : Int) = ior IntKind.i64 z8 z3) /\ (((↑(List.length j.2.2) : Int) = IntKind.wrap IntKind.i64 ((↑(List.length s.2.2) : Int) + (1 : Int))) /\ ((0 = 0) /\
  ((List.length g.1 = List.length g.1) /\ (z7 /\ (((↑g.2 : Int) = (↑g.2 : Int)) /\ (z6 /\ ((Plain (bCells g.1)) /\ ((Eq (α := List Value) (bkC) (bkC)) /\ ((Plain bkC) /\
  ((Eq (α := List Value) (bCells j.2.1) (bCells s.2.1)) /\ ((Plain (bCells j.2.1)) /\ True)))))))))))))))))))) (br z4 ((Eq (α := Option Value) (bkC[802 + Int.toNat z2 * 1]?)
  (some (Value.int IntKind.i64 (cellI bkC (802 + Int.toNat z2 * 1))))) /\ (br (decide (IntKind.wrap IntKind.i64 z12 ≥ cellI bkC (802 + Int.toNat z2 * 1))) (∃ j : Nat × List
  UInt8 × List Bool, ((Inv j) /\ ((m j < m s) /\ (z11 /\ (((7 : Int) - (↑j.1 : Int) = IntKind.wrap IntKind.i64 ((7 : Int) - (↑s.1 : Int) - (1 : Int))) /\ ((0 = 0) /\ ((0 =
  0) /\ ((List.length j.2.1 = List.length s.2.1) /\ (((↑(val j.2.2) : Int) = ior IntKind.i64 z8 z3) /\ (((↑(List.length j.2.2) : Int) = IntKind.wrap IntKind.i64
  ((↑(List.length s.2.2) : Int) + (1 : Int))) /\ ((0 = 0) /\ ((List.length g.1 = List.length g.1) /\ (z7 /\ (((↑g.2 : Int) = (↑g.2 : Int)) /\ (z6 /\ ((Plain (bCells g.1)) /\
  ((Eq (α := List Value) (bkC) (bkC)) /\ ((Plain bkC) /\ ((Eq (α := List Value) (bCells j.2.1) (bCells s.2.1)) /\ ((Plain (bCells j.2.1)) /\ True)))))))))))))))))))) (br z4
  (z9 /\ (br (decide ((0 : Int) <= IntKind.wrap IntKind.i64 z1 /\ IntKind.wrap IntKind.i64 z1 < (257 : Int))) (z10 /\ (z9 /\ ((Value.int IntKind.i64 (cellI bkC (833 +
  Int.toNat z2 * 1)) = Value.int IntKind.i64 (cellI bkC (833 + Int.toNat z2 * 1))) /\ (z10 /\ ((Value.int IntKind.i64 z5 = Value.int IntKind.i64 z5) /\ (br (cellI bkC (514 +
  Int.toNat (IntKind.wrap IntKind.i64 z1) * 1) == (256 : Int)) (∃ y : List UInt8 × List Bool, ((Eq (α := Option (List UInt8 × List Bool)) (decS (by8 g.3) (GD.o g, GD.R g))
  (none)) /\ ((ByteArray.mk #[] = ByteArray.mk #[]) /\ (((4 : Int) = (4 : Int)) /\ (z6 /\ ((Plain (bCells g.1)) /\ True)))))) (br (decide (List.length s.2.1 + 1 <=
  16777216)) (br (decide (0 + List.length s.2.1 * 1 <= List.length (bCells s.2.1))) (∃ j : Nat × List UInt8 × List Bool, ((Inv j) /\ ((m j < m s) /\ (z11 /\ (((7 : Int) -
  (↑j.1 : Int) = IntKind.wrap IntKind.i64 ((7 : Int) - (↑s.1 : Int) - (1 : Int))) /\ ((0 = 0) /\ ((0 = 0) /\ ((List.length j.2.1 = List.length s.2.1 + 1) /\ (((↑(val j.2.2)
  : Int) = (0 : Int)) /\ (((↑(List.length j.2.2) : Int) = (0 : Int)) /\ ((0 = 0) /\ ((List.length g.1 = List.length g.1) /\ (z7 /\ (((↑g.2 : Int) = (↑g.2 : Int)) /\ (z6 /\
  ((Plain (bCells g.1)) /\ ((Eq (α := List Value) (bkC) (bkC)) /\ ((Plain bkC) /\ ((Eq (α := List Value) (bCells j.2.1) (List.take (List.length s.2.1 * 1) (List.drop 0
  (bCells s.2.1)) ++ [Value.int IntKind.u8 (IntKind.wrap IntKind.u8 z5)])) /\ ((Plain (bCells j.2.1)) /\ True)))))))))))))))))))) False) False))))))) False)) False)))
  False))) False) False) (∃ y : List UInt8 × List Bool, (((Eq (α := Option (List UInt8 × List Bool)) (decS (by8 g.3) (GD.o g, GD.R g)) (some y) /\ (PI y.2 /\ List.length y.1
  <= List.length g.4 + 8))) /\ ((0 = 0) /\ ((0 = 0) /\ ((List.length y.1 = List.length s.2.1) /\ (((↑(val y.2) : Int) = (↑(val s.2.2) : Int)) /\ (((↑(List.length y.2) : Int)
  = (↑(List.length s.2.2) : Int)) /\ ((0 = 0) /\ ((List.length g.1 = List.length g.1) /\ (z7 /\ (((↑g.2 : Int) = (↑g.2 : Int)) /\ (z6 /\ ((Plain (bCells g.1)) /\ ((Eq (α :=
  List Value) (bkC) (bkC)) /\ ((Plain bkC) /\ ((Eq (α := List Value) (bCells y.1) (bCells s.2.1)) /\ ((Plain (bCells y.1)) /\ True)))))))))))))))))) := by kernel_rfl
theorem D1_round (l : List UInt8) (s : Nat × List UInt8 × List Bool) (Inv : Nat × List UInt8 × List Bool → Prop) (m : Nat × List UInt8 × List Bool → Nat) : mev EtC mD2 60 52 (0 :: pD1) false (codeOf Try.prog 52 (0 :: pD1)) ⟨mkOv (slD1 l s), 62, []⟩ none ⟨mkR (rlD l s.2.1), 3⟩ (roundK 1 3 62 Inv m (slD1 l) (fun s => rlD l s.2.1) (wsD1 l) s) =
  (br (decide ((↑s.1 : Int) < (↑(List.length l) : Int))) (br (decide ((0 : Int) <= (↑s.1 : Int) /\ (↑s.1 : Int) < (↑(List.length l) : Int))) ((Eq (α := Option Value)
  ((bCells l)[0 + Int.toNat (↑s.1 : Int) * 1]?) (some (Value.int IntKind.u8 (cellI (bCells l) (0 + Int.toNat (↑s.1 : Int) * 1))))) /\ (∃ g : GD, ((PI g.5 /\ List.length g.4
  <= 8388608) /\ (((↑(UInt8.toNat g.3) : Int) = cellI (bCells l) (0 + Int.toNat (↑s.1 : Int) * 1)) /\ (((7 : Int) - (↑0 : Int) = (7 : Int)) /\ ((0 = 0) /\ ((0 = 0) /\
  ((List.length g.4 = List.length s.2.1) /\ (((↑(val g.5) : Int) = (↑(val s.2.2) : Int)) /\ (((↑(List.length g.5) : Int) = (↑(List.length s.2.2) : Int)) /\ ((0 = 0) /\
  ((List.length g.1 = List.length l) /\ (((↑(List.length g.1) : Int) = (↑(List.length l) : Int)) /\ (((↑g.2 : Int) = (↑s.1 : Int)) /\ ((Eq (α := List Value) (bCells g.1)
  (bCells l)) /\ ((Plain (bCells g.1)) /\ ((Eq (α := List Value) (bkC) (bkC)) /\ ((Plain bkC) /\ ((Eq (α := List Value) (bCells g.4) (bCells s.2.1)) /\ ((Plain (bCells g.4))
  /\ (∀ (side : Bool), (br (side) (∀ (y : List UInt8 × List Bool), ((decS (by8 (GD.c g)) (GD.o g, GD.R g) = some y /\ PI y.2 /\ List.length y.1 <= List.length g.4 + 8) → (∃
  j : Nat × List UInt8 × List Bool, ((Inv j) /\ ((m j < m s) /\ ((0 = 0) /\ ((0 = 0) /\ ((List.length j.2.1 = List.length y.1) /\ (((↑(val j.2.2) : Int) = (↑(val y.2) :
  Int)) /\ (((↑(List.length j.2.2) : Int) = (↑(List.length y.2) : Int)) /\ ((0 = 0) /\ ((List.length l = List.length g.1) /\ (((↑(List.length l) : Int) = (↑(List.length g.1)
  : Int)) /\ (((↑j.1 : Int) = IntKind.wrap IntKind.i64 ((↑g.2 : Int) + (1 : Int))) /\ ((Eq (α := List Value) (bCells l) (bCells g.1)) /\ ((Plain (bCells l)) /\ ((Eq (α :=
  List Value) (bkC) (bkC)) /\ ((Plain bkC) /\ ((Eq (α := List Value) (bCells j.2.1) (bCells y.1)) /\ ((Plain (bCells j.2.1)) /\ True)))))))))))))))))))) (∀ (y : List UInt8 ×
  List Bool), ((decS (by8 (GD.c g)) (GD.o g, GD.R g) = none) → (∃ y2 : List UInt8 × List Bool, ((Eq (α := Option (List UInt8 × List Bool)) (decO l) (none)) /\ ((ByteArray.mk
  #[] = ByteArray.mk #[]) /\ (((4 : Int) = (4 : Int)) /\ ((Eq (α := List Value) (bCells l) (bCells g.1)) /\ ((Plain (bCells l)) /\ True)))))))))))))))))))))))))))))) False)
  (∃ y : List UInt8 × List Bool, (((Eq (α := Option (List UInt8 × List Bool)) (decO l) (some y) /\ List.length y.2 <= 29)) /\ ((0 = 0) /\ ((List.length y.1 = List.length
  s.2.1) /\ (((↑(val y.2) : Int) = (↑(val s.2.2) : Int)) /\ (((↑(List.length y.2) : Int) = (↑(List.length s.2.2) : Int)) /\ ((Eq (α := List Value) (bCells l) (bCells l)) /\
  ((Plain (bCells l)) /\ ((Eq (α := List Value) (bCells y.1) (bCells s.2.1)) /\ ((Plain (bCells y.1)) /\ True))))))))))) := by kernel_rfl
theorem D_vc (l : List UInt8) (t : List UInt8) (e : Int) : mcall EtC mD 60 52 [slc 0 l.length] ⟨mkR (nums 0 [bRo l]), 1⟩ (retIs 1 (.tuple #[.string (bs t), .int .i64 e]) [bRo l]) =
  (((True /\ (True /\ ((Plain bkC /\ True) /\ True)))) /\ (∃ g : List UInt8, ((List.length g <= 1048576) /\ ((0 = 0) /\ ((0 = 0) /\ (((0 : Int) = (0 : Int)) /\ (((0 : Int) =
  (0 : Int)) /\ ((0 = 0) /\ ((List.length g = List.length l) /\ (((↑(List.length g) : Int) = Int.ofNat (List.length l)) /\ (((0 : Int) = (0 : Int)) /\ ((Eq (α := List Value)
  (bCells g) (bCells l)) /\ ((Plain (bCells g)) /\ ((Eq (α := List Value) (bkC) (bkC)) /\ ((Plain bkC) /\ ((Eq (α := List Value) ([]) ([])) /\ (∀ (side : Bool), (br (side)
  (∀ (y : List UInt8 × List Bool), ((decO g = some y /\ List.length y.2 <= 29) → (br (decide ((↑(List.length y.2) : Int) > (7 : Int))) ((bs t = ByteArray.mk #[]) /\ ((e = (4
  : Int)) /\ ((Eq (α := List Value) (bCells l) (bCells g)) /\ ((Plain (bCells l)) /\ True)))) (br ((↑(val y.2) : Int) != IntKind.wrap IntKind.i64 (ishl IntKind.i64 (1 : Int)
  (↑(List.length y.2) : Int) - (1 : Int))) ((bs t = ByteArray.mk #[]) /\ ((e = (4 : Int)) /\ ((Eq (α := List Value) (bCells l) (bCells g)) /\ ((Plain (bCells l)) /\ True))))
  (br (decide (0 + List.length y.1 <= List.length (bCells y.1))) ((AllB (List.take (List.length y.1) (List.drop 0 (bCells y.1)))) /\ ((bs t = ByteArray.mk (Array.mk
  (List.map bOf (List.take (List.length y.1) (List.drop 0 (bCells y.1)))))) /\ ((e = (0 : Int)) /\ ((Eq (α := List Value) (bCells l) (bCells g)) /\ ((Plain (bCells l)) /\
  True))))) False))))) (∀ (y : List UInt8 × List Bool), ((decO g = none) → ((bs t = ByteArray.mk #[]) /\ ((e = (4 : Int)) /\ ((Eq (α := List Value) (bCells l) (bCells g)) /\
  ((Plain (bCells l)) /\ True)))))))))))))))))))))))) := by kernel_rfl
theorem z_by8 (c : UInt8) : by8 c = bl 8 c.toNat := Classical.choose_spec (bool_ex0 _)
theorem bl_get : ∀ (n v k : Nat), k < n → (bl n v)[k]? = some (decide (v / 2 ^ (n - 1 - k) % 2 = 1))
  | 0, v, k, h => by omega
  | n + 1, v, 0, h => by rw [bl]; simp
  | n + 1, v, k + 1, h => by
    rw [bl, List.getElem?_cons_succ, bl_get n v k (by omega), show n + 1 - 1 - (k + 1) = n - 1 - k by omega]
theorem decS_app : ∀ (x y : List Bool) (s : List UInt8 × List Bool), decS (x ++ y) s = (decS x s).bind (decS y)
  | [], y, s => rfl
  | b :: x, y, s => by
    rw [List.cons_append, decS, decS]
    cases stepD s b with
    | none => rfl
    | some t => exact decS_app x y t
theorem decS_one (b : Bool) (s : List UInt8 × List Bool) : decS [b] s = stepD s b := by
  rw [decS]; cases stepD s b <;> rfl
theorem cdN_all : ∀ n : Fin 30, cdN (n.1 + 1) = cdN n.1 * 2 + cntN (n.1 + 1) ∧ stN (n.1 + 1) + cntN (n.1 + 1) ≤ 257 := by decide +kernel
theorem cdN_30 : cdN 30 = 2 ^ 30 := by decide +kernel
theorem PI_nil : PI [] := ⟨by decide, by decide⟩
theorem PI_step {R : List Bool} {b : Bool} (h : PI R) (hn : symO (val (R ++ [b])) (R.length + 1) = none) : PI (R ++ [b]) := by
  obtain ⟨h1, h2⟩ := h
  obtain ⟨f1, _, _, _⟩ := fst_in R.length (by omega)
  obtain ⟨c1, _⟩ := cdN_all ⟨R.length, by omega⟩
  simp only at c1
  have hv : val (R ++ [b]) = val R * 2 + b.toNat := by rw [val_app]; simp [val]
  have hlt := val_lt (R ++ [b])
  rw [List.length_append, List.length_singleton] at hlt
  unfold symO at hn
  split at hn
  · cases hn
  · rename_i hc
    have h3 : cdN (R.length + 1) ≤ val (R ++ [b]) := by
      apply Decidable.byContradiction; intro hx; exact hc ⟨by omega, by omega⟩
    refine ⟨?_, by rw [List.length_append, List.length_singleton]; exact h3⟩
    rw [List.length_append, List.length_singleton]
    apply Decidable.byContradiction; intro hx
    have : R.length = 29 := by omega
    rw [this] at h3 hlt
    rw [cdN_30] at h3
    omega
theorem D2_piece : PieceOk EtC 1 (52, pD2, specD2) := by
  refine piece_loop mixed (calls_envT tC_ok) (lok_envT _ _) lm_none (n := 60) (by kernel_rfl) (fun g : GD => ((0, g.o, g.R) : Nat × List UInt8 × List Bool)) (fun g s => s.1 ≤ 8 ∧ decS ((by8 g.c).take s.1) (g.o, g.R) = some s.2 ∧ PI s.2.2 ∧ s.2.1.length ≤ g.o.length + s.1) (fun g s => 8 - s.1) (sl := slD2) (rl := fun g s => rlD g.l s.2.1) (fun g hg => ⟨Nat.zero_le _, rfl, hg.1, Nat.le_refl _⟩) (fun g s hg hi => ?_)
  refine (D2_round g s _ _).mpr ?_
  obtain ⟨l, i, c, o0, R0⟩ := g
  obtain ⟨k, o, R⟩ := s
  obtain ⟨h1, h2, h3, h4⟩ := hi
  obtain ⟨hg1, hg2⟩ := hg
  simp only at h1 h2 h3 h4 hg1 hg2
  have h38 : (by8 c).length = 8 := by rw [z_by8, bl_len]
  simp only [ofNat_eq, toNat_cast, Nat.zero_add, Nat.add_zero, Nat.mul_one, List.drop_zero, bCells_len, bCells_drop, bCells_take, bCells_app, bCells_one, bCells_plain, List.length_replicate, List.length_append, List.length_take, List.length_drop, List.take_length, and_true, true_and, and_self, decide_true, List.length_nil, List.length_cons, Nat.sub_zero, dB_mk, dB_ro, List.take_zero, z_bkC]
  refine br_if (fun h => ?_) (fun h => ?_)
  · have hk : k ≤ 7 := by omega
    have hc := c.toNat_lt
    obtain ⟨p1, p2⟩ := h3
    obtain ⟨f1, f2, f3', f4⟩ := fst_in R.length (by omega)
    obtain ⟨c1, c2⟩ := cdN_all ⟨R.length, by omega⟩
    simp only at c1 c2
    obtain ⟨z1, z2, z3⟩ := fZ (R.length + 1) (by omega)
    have hget : (by8 c)[k]? = some (decide (c.toNat / 2 ^ (7 - k) % 2 = 1)) := by rw [z_by8, bl_get 8 _ _ (by omega)]
    generalize hb : decide (c.toNat / 2 ^ (7 - k) % 2 = 1) = b at hget
    have hbn : b.toNat = c.toNat / 2 ^ (7 - k) % 2 := by
      rw [← hb]
      rcases Nat.mod_two_eq_zero_or_one (c.toNat / 2 ^ (7 - k)) with h | h <;> rw [h] <;> decide
    have hv : val (R ++ [b]) = val R * 2 + b.toNat := by rw [val_app]; simp [val]
    have hvl := val_lt R
    have hvp := p2le R.length (by omega)
    have hb1 : b.toNat ≤ 1 := by cases b <;> decide
    have hdv : c.toNat / 2 ^ (7 - k) ≤ c.toNat := Nat.div_le_self _ _
    have w1 : IntKind.i64.wrap ((R.length : Int) + 1) = ((R.length + 1 : Nat) : Int) := w_one _ (by omega)
    have w2 : (7 : Int) - (k : Int) = ((7 - k : Nat) : Int) := by omega
    have w3 : IntKind.i64.wrap (((7 - k : Nat) : Int) - 1) = 7 - ((k + 1 : Nat) : Int) := by rw [wr64_id (by unfold I64; omega)]; omega
    have e1 : ior .i64 (ishl .i64 ((val R : Nat) : Int) 1) (iand .i64 (ishr .i64 (IntKind.i64.wrap ((c.toNat : Nat) : Int)) ((7 - k : Nat) : Int)) 1) = ((val (R ++ [b]) : Nat) : Int) := by
      have e3 := ishl_nat (a := val R) (k := 1) (by omega) (by omega)
      rw [show ((1 : Nat) : Int) = 1 from rfl] at e3
      have e4 := iand_nat (a := c.toNat / 2 ^ (7 - k)) (b := 1) (by omega) (by omega)
      rw [show ((1 : Nat) : Int) = 1 from rfl, Nat.and_one_is_mod] at e4
      rw [e3, w_nat _ (by omega), ishr_nat (by omega), e4, ← hbn, or_cat 1 (by omega) (by omega), hv]
    have hht : (by8 c).take (k + 1) = (by8 c).take k ++ [b] := by rw [List.take_add_one, hget]; rfl
    have hdec : decS ((by8 c).take (k + 1)) (o0, R0) = stepD (o, R) b := by rw [hht, decS_app, h2, Option.bind_some, decS_one]
    rw [w2]
    simp only [w1, e1, Int.toNat_natCast]
    simp (disch := omega) only [tb_get, tb_cell, z1, z2, z3]
    have hfl : fstN (R.length + 1) ≤ val (R ++ [b]) := by omega
    have w4 : IntKind.i64.wrap (((val (R ++ [b]) : Nat) : Int) - ((fstN (R.length + 1) : Nat) : Int)) = ((val (R ++ [b]) - fstN (R.length + 1) : Nat) : Int) := by rw [wr64_id (by unfold I64; omega)]; omega
    rw [w4]
    refine br_dec (by omega) (br_dec (by omega) ⟨trivial, br_nif (by omega) fun _ => br_dec (by omega) ⟨trivial, br_if (fun h5 => ?_) (fun h5 => ?_)⟩⟩)
    · have hs : symO (val (R ++ [b])) (R.length + 1) = none := by unfold symO; rw [if_neg (by omega)]
      have hst : stepD (o, R) b = some (o, R ++ [b]) := by unfold stepD; simp only; rw [hs]
      refine ⟨(k + 1, o, R ++ [b]), ⟨by simp only; omega, by rw [hdec, hst], PI_step ⟨p1, p2⟩ hs, by simp only; omega⟩, by simp only; omega, by rw [w3], rfl, rfl, by simp, nC_plain _, rfl⟩
    · have hr : stN (R.length + 1) + (val (R ++ [b]) - fstN (R.length + 1)) < 257 := by omega
      obtain ⟨_, _, q3⟩ := fB _ hr
      obtain ⟨_, _, o3, _⟩ := pos_in _ hr
      have hs : symO (val (R ++ [b])) (R.length + 1) = some (ordN (stN (R.length + 1) + (val (R ++ [b]) - fstN (R.length + 1)))) := by unfold symO; rw [if_pos (by omega)]
      rw [w_add _ _ (by omega)]
      simp only [Int.toNat_natCast]
      generalize stN (R.length + 1) + (val (R ++ [b]) - fstN (R.length + 1)) = r at *
      simp (disch := omega) only [tb_get, tb_cell, q3]
      refine br_dec (by omega) ⟨trivial, br_dec (by omega) ⟨trivial, trivial, trivial, br_intro (fun h6 => ?_) (fun h6 => ?_)⟩⟩
      · have h7 : ordN r = 256 := by have := of_decide_eq_true h6; omega
        have hst : stepD (o, R) b = none := by unfold stepD; simp only; rw [hs, h7]; rfl
        refine ⟨(o, R), ?_⟩
        have hsp : by8 c = (by8 c).take (k + 1) ++ (by8 c).drop (k + 1) := (List.take_append_drop _ _).symm
        rw [hsp, decS_app, hdec, hst]; rfl
      · have h7 : ordN r ≠ 256 := by intro e; rw [e] at h6; simp at h6
        have hst : stepD (o, R) b = some (o ++ [UInt8.ofNat (ordN r)], []) := by unfold stepD; simp only; rw [hs]; simp only; rw [if_neg h7]
        rw [wru8_nat (by omega), bVal_nat (by omega)]
        refine br_dec (by omega) (br_dec (by omega) ⟨(k + 1, o ++ [UInt8.ofNat (ordN r)], []), ⟨by simp only; omega, by rw [hdec, hst], PI_nil, by simp only [List.length_append, List.length_singleton]; omega⟩, by simp only; omega, by rw [w3], by simp, rfl, rfl, nC_plain _, ?_⟩)
        simp only
        rw [← bCells_app]; rfl
  · have hk : k = 8 := by omega
    subst hk
    rw [List.take_of_length_le (by omega)] at h2
    exact ⟨(o, R), ⟨h2, h3, h4⟩, rfl, rfl, rfl, nC_plain _, rfl⟩
theorem bit_app (a b : List UInt8) : bitB (a ++ b) = bitB a ++ bitB b := by unfold bitB; rw [List.flatMap_append]
theorem D1_piece : PieceOk EtC 1 (52, pD1, specD1) := by
  refine piece_loop mixed (calls_envT tC_ok) (lok_envT _ _) (lm_one D2_piece) (n := 60) (by kernel_rfl) (fun _ => ((0, [], []) : Nat × List UInt8 × List Bool)) (fun l s => s.1 ≤ l.length ∧ decS (bitB (l.take s.1)) ([], []) = some s.2 ∧ PI s.2.2 ∧ s.2.1.length ≤ 8 * s.1) (fun l s => l.length - s.1) (sl := slD1) (rl := fun l s => rlD l s.2.1) (fun l hl => ⟨Nat.zero_le _, rfl, PI_nil, Nat.le_refl _⟩) (fun l s hl hi => ?_)
  refine (D1_round l s _ _).mpr ?_
  obtain ⟨i, o, R⟩ := s
  obtain ⟨h1, h2, h3, h4⟩ := hi
  simp only at h1 h2 h3 h4
  have hl : l.length ≤ 1048576 := hl
  simp only [ofNat_eq, toNat_cast, Nat.zero_add, Nat.add_zero, Nat.mul_one, List.drop_zero, bCells_len, bCells_drop, bCells_take, bCells_app, bCells_one, bCells_plain, List.length_replicate, List.length_append, List.length_take, List.length_drop, List.take_length, and_true, true_and, and_self, decide_true, List.length_nil, List.length_cons, Nat.sub_zero, dB_mk, dB_ro, List.take_zero, z_bkC]
  refine br_if (fun h => ?_) (fun h => ?_)
  · have hi : i < l.length := by omega
    have ht : l.take (i + 1) = l.take i ++ [l[i]] := by rw [List.take_add_one, List.getElem?_eq_getElem hi]; rfl
    have hb1 : bitB [l[i]] = by8 l[i] := by unfold bitB; rw [z_by8]; simp
    have hcell : cellI (bCells l) i = ((l[i].toNat : Nat) : Int) := by rw [bCells_cell hi]; simp [List.getD, List.getElem?_eq_getElem hi]
    refine br_dec (by omega) ⟨bCells_at hi, ⟨l, i, l[i], o, R⟩, ⟨h3, by simp only; omega⟩, hcell.symm, rfl, rfl, rfl, rfl, rfl, rfl, rfl, rfl, nC_plain _, rfl, fun side => br_intro (fun _ => fun y hy => ?_) (fun _ => fun y hy => ?_)⟩
    · obtain ⟨y1, y2, y3⟩ := hy
      simp only at y1 y3
      refine ⟨(i + 1, y), ⟨by simp only; omega, by simp only; rw [ht, bit_app, hb1, decS_app, h2]; exact y1, y2, by simp only; omega⟩, by simp only; omega, rfl, rfl, rfl, rfl, rfl, (w_one _ (by omega)).symm, rfl, nC_plain _, rfl⟩
    · refine ⟨y, ?_, rfl⟩
      simp only at hy
      unfold decO
      have hs : l = l.take (i + 1) ++ l.drop (i + 1) := (List.take_append_drop _ _).symm
      rw [hs, bit_app, decS_app, ht, bit_app, hb1, decS_app, h2, Option.bind_some, hy]; rfl
  · have : i = l.length := by omega
    subst this
    rw [List.take_length] at h2
    exact ⟨(o, R), ⟨h2, h3.1⟩, rfl, rfl, rfl, rfl⟩
theorem De_con (l : List UInt8) (hl : l.length ≤ 1048576) : Con Try.prog 52 [slc 0 l.length] [bRo l] (.tuple #[.string (bs (decT l)), .int .i64 (decE l)]) [bRo l] := by
  refine con_vc (E := EtC) mixed (calls_envT tC_ok) (lok_envT _ _) (M := mD) (lm_one D1_piece) (D_vc l _ _) ?_
  simp only [ofNat_eq, toNat_cast, Nat.zero_add, Nat.add_zero, Nat.mul_one, List.drop_zero, bCells_len, bCells_drop, bCells_take, bCells_app, bCells_one, bCells_plain, List.length_replicate, List.length_append, List.length_take, List.length_drop, List.take_length, and_true, true_and, and_self, decide_true, List.length_nil, List.length_cons, Nat.sub_zero, dB_mk, dB_ro, List.take_zero, z_bkC]
  refine ⟨nC_plain _, l, hl, rfl, rfl, rfl, nC_plain _, fun side => br_intro (fun _ => fun y hy => ?_) (fun _ => fun y hy => ?_)⟩
  · obtain ⟨y1, y2⟩ := hy
    obtain ⟨o, R⟩ := y
    simp only at y2
    have e0 : decR l = finD (o, R) := by unfold decR; rw [y1]; rfl
    simp only
    rw [sh1 _ (by omega)]
    refine br_if (fun h => ?_) (fun h => ?_)
    · have e1 : decR l = none := by rw [e0]; unfold finD; rw [if_pos (Or.inl (by simp only; omega))]
      unfold decT decE; rw [e1]; exact ⟨rfl, rfl, by first | exact trivial | rfl⟩
    · have hb : (⟨⟨List.map bOf (bCells o)⟩⟩ : ByteArray) = bs o := by rw [bCells_bOf]; rfl
      rw [hb]
      refine br_intro (fun h6 => ?_) (fun h6 => br_dec (by omega) ?_)
      · have h7 : val R ≠ 2 ^ R.length - 1 := by intro e; rw [e] at h6; simp at h6
        have e1 : decR l = none := by rw [e0]; unfold finD; rw [if_pos (Or.inr h7)]
        unfold decT decE; rw [e1]; exact ⟨rfl, rfl, by first | exact trivial | rfl⟩
      · have h7 : val R = 2 ^ R.length - 1 := by
          have : ¬ ((val R : Nat) : Int) ≠ ((2 ^ R.length - 1 : Nat) : Int) := by intro e; rw [bne_iff_ne.2 e] at h6; simp at h6
          omega
        have e1 : decR l = some o := by rw [e0]; unfold finD; rw [if_neg (fun hh => hh.elim (fun a => by simp only at a; omega) (fun a => a h7))]
        unfold decT decE; rw [e1]; exact ⟨bCells_all _, rfl, rfl, trivial⟩
  · have e1 : decR l = none := by unfold decR; rw [hy]; rfl
    unfold decT decE; rw [e1]; exact ⟨rfl, rfl, by first | exact trivial | rfl⟩
end Go.Proofs.Ytellbmbklfbbfaa.hf
