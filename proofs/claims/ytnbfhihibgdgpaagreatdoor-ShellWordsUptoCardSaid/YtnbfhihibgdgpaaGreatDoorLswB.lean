/- A number read back. -/
import Derived.Test.YtnbfhihibgdgpaaGreatDoorSz9
import Derived.Test.YtnbfhihibgdgpaaGreatDoorRows
import Derived.Test.YtnbfhihibgdgpaaGreatDoorLswA
set_option maxRecDepth 20000
set_option linter.unusedSimpArgs false
set_option linter.unusedVariables false
namespace Go.Proofs.YtnbfhihibgdgpaaGreatDoor.sw
open Go Go.Ev Go.Sy Go.RowKit Go.Proofs.YtnbfhihibgdgpaaGreatDoor.gl Go.Proofs.YtnbfhihibgdgpaaGreatDoor.tk Go.Proofs.YtnbfhihibgdgpaaGreatDoor.sl
def valD (l : List UInt8) : Nat := l.foldl (fun a c => a * 10 + (c.toNat - 48)) 0
structure GN where
  x : RD
  u : Nat
  sg : Int
def dgs (g : GN) : List UInt8 := Lib.decDigits g.u
def pRn : List Nat := [0, 1, 0, 1, 1, 1, 1, 1]
def slRn (g : GN) (i : Nat) : List (Nat × Value) := [(0, .pointer (some ⟨0, 0, none⟩)), (1, .string (bs (dgs g))), (5, .int .i64 g.sg), (6, .int .i64 (valD ((dgs g).take i) : Nat)), (31, .int .i64 ((dgs g).length : Nat)), (32, .int .i64 (i : Nat))]
noncomputable def wsRn (g : GN) : List (Gate Unit) := [⟨.exit 0, fun _ => True, fun _ => [(5, .int .i64 g.sg), (6, .int .i64 (g.u : Nat))], fun _ => rdR g.x, 2⟩]
noncomputable def specRn : Sy.Spec := specOf 2 2 67 (fun g : GN => g.u < 9223372036854775808) (fun g => slRn g 0) (fun g => rdR g.x) wsRn
noncomputable def mRn := mOf [(37, pRn, specRn)]
theorem Rn_round (g : GN) (i : Nat) (Inv : Nat → Prop) (m : Nat → Nat) : mev E0 noM 60 37 (0 :: pRn) false (codeOf Tryz.prog 37 (0 :: pRn)) ⟨mkOv (slRn g i), 67, []⟩ none ⟨mkR (rdR g.x), 2⟩ (roundK 2 2 67 Inv m (slRn g) (fun _ => rdR g.x) (wsRn g) i) =
  (br (decide ((↑i : Int) < (↑(List.length (dgs g)) : Int))) (br (decide ((0 : Int) <= (↑i : Int) /\ (↑i : Int) < (↑(List.length (Array.toList (ByteArray.data (bs (dgs
  g))))) : Int))) (br (decide (byteAt (bs (dgs g)) (Int.toNat (↑i : Int)) ≥ (48 : Int))) (br (decide ((0 : Int) <= (↑i : Int) /\ (↑i : Int) < (↑(List.length (Array.toList
  (ByteArray.data (bs (dgs g))))) : Int))) (br (!decide (byteAt (bs (dgs g)) (Int.toNat (↑i : Int)) <= (57 : Int))) False (br (decide ((0 : Int) <= (↑i : Int) /\ (↑i : Int)
  < (↑(List.length (Array.toList (ByteArray.data (bs (dgs g))))) : Int))) (br (!decide ((↑(valD (List.take i (dgs g))) : Int) <= IntKind.wrap IntKind.i64 (Int.tdiv
  (IntKind.wrap IntKind.i64 ((9223372036854775807 : Int) - IntKind.wrap IntKind.i64 (IntKind.wrap IntKind.u8 (byteAt (bs (dgs g)) (Int.toNat (↑i : Int)) - (48 : Int))))) (10
  : Int)))) False (∃ j : Nat, ((Inv j) /\ ((m j < m i) /\ ((0 = 0) /\ ((bs (dgs g) = bs (dgs g)) /\ ((g.3 = g.3) /\ (((↑(valD (List.take j (dgs g))) : Int) = IntKind.wrap
  IntKind.i64 (IntKind.wrap IntKind.i64 ((↑(valD (List.take i (dgs g))) : Int) * (10 : Int)) + IntKind.wrap IntKind.i64 (IntKind.wrap IntKind.u8 (byteAt (bs (dgs g))
  (Int.toNat (↑i : Int)) - (48 : Int))))) /\ (((↑(List.length (dgs g)) : Int) = (↑(List.length (dgs g)) : Int)) /\ (((↑j : Int) = IntKind.wrap IntKind.i64 ((↑i : Int) + (1 :
  Int))) /\ ((0 = 0) /\ ((List.length g.1.1 = List.length g.1.1) /\ ((g.1.2 = g.1.2) /\ ((Eq (α := List Value) (gC enS g.1.1) (gC enS g.1.1)) /\ ((Plain (gC enS g.1.1)) /\
  True))))))))))))))) False)) False) False) False) (∃ y : Unit, ((True) /\ ((g.3 = g.3) /\ (((↑g.2 : Int) = (↑(valD (List.take i (dgs g))) : Int)) /\ ((0 = 0) /\
  ((List.length g.1.1 = List.length g.1.1) /\ ((g.1.2 = g.1.2) /\ ((Eq (α := List Value) (gC enS g.1.1) (gC enS g.1.1)) /\ ((Plain (gC enS g.1.1)) /\ True)))))))))) := by kernel_rfl
theorem Ra_vc (g : GN) : mcall E0 mRn 60 37 [.pointer (some ⟨0, 0, none⟩), .string (bs (dgs g))] ⟨mkR (nums 0 (rdL g.x)), 2⟩ (retIs 2 (.int .i64 (g.u : Nat)) (rdL g.x)) =
  (br (decide (Int.ofNat (List.length (Array.toList (ByteArray.data (bs (dgs g))))) ≥ (1 : Int))) (br (decide ((0 : Int) <= (↑0 : Int) /\ (↑0 : Int) <= Int.ofNat
  (List.length (Array.toList (ByteArray.data (ByteArray.mk #[45])))) /\ (1 : Int) <= (↑(List.length (Array.toList (ByteArray.data (bs (dgs g))))) : Int))) (br (strEq (sub
  (bs (dgs g)) 0 1) (ByteArray.mk #[45])) (br (decide ((0 : Int) <= (1 : Int) /\ (1 : Int) <= (↑(List.length (Array.toList (ByteArray.data (bs (dgs g))))) : Int) /\
  (↑(List.length (Array.toList (ByteArray.data (bs (dgs g))))) : Int) <= (↑(List.length (Array.toList (ByteArray.data (bs (dgs g))))) : Int))) (br (decide ((0 : Int) <= (1 :
  Int) /\ (1 : Int) <= (↑(List.length (Array.toList (ByteArray.data (bs (dgs g))))) : Int) /\ (↑(List.length (Array.toList (ByteArray.data (bs (dgs g))))) : Int) <=
  (↑(List.length (Array.toList (ByteArray.data (bs (dgs g))))) : Int))) ((Value.string (sub (bs (dgs g)) 1 (Int.toNat (↑(List.length (Array.toList (ByteArray.data (bs (dgs
  g))))) : Int))) = Value.string (sub (bs (dgs g)) 1 (Int.toNat (↑(List.length (Array.toList (ByteArray.data (bs (dgs g))))) : Int)))) /\ (br (!!strEq (sub (bs (dgs g)) 1
  (Int.toNat (↑(List.length (Array.toList (ByteArray.data (bs (dgs g))))) : Int))) (ByteArray.mk #[48])) False (br (!strEq (sub (bs (dgs g)) 1 (Int.toNat (↑(List.length
  (Array.toList (ByteArray.data (bs (dgs g))))) : Int))) (ByteArray.mk #[])) (br (decide ((0 : Int) <= (0 : Int) /\ (0 : Int) < (↑(List.length (Array.toList (ByteArray.data
  (sub (bs (dgs g)) 1 (Int.toNat (↑(List.length (Array.toList (ByteArray.data (bs (dgs g))))) : Int)))))) : Int))) (br (byteAt (sub (bs (dgs g)) 1 (Int.toNat (↑(List.length
  (Array.toList (ByteArray.data (bs (dgs g))))) : Int))) 0 != (48 : Int)) (∃ g2 : GN, ((g2.2 < 9223372036854775808) /\ ((0 = 0) /\ ((bs (dgs g2) = sub (bs (dgs g)) 1
  (Int.toNat (↑(List.length (Array.toList (ByteArray.data (bs (dgs g))))) : Int))) /\ ((g2.3 = (-1 : Int)) /\ (((↑(valD []) : Int) = (0 : Int)) /\ (((↑(List.length (dgs g2))
  : Int) = Int.ofNat (List.length (Array.toList (ByteArray.data (sub (bs (dgs g)) 1 (Int.toNat (↑(List.length (Array.toList (ByteArray.data (bs (dgs g))))) : Int))))))) /\
  (((0 : Int) = (0 : Int)) /\ ((0 = 0) /\ ((List.length g2.1.1 = List.length g.1.1) /\ ((g2.1.2 = g.1.2) /\ ((Eq (α := List Value) (gC enS g2.1.1) (gC enS g.1.1)) /\ ((Plain
  (gC enS g2.1.1)) /\ (∀ (y : Unit), ((True) → (((↑g.2 : Int) = IntKind.wrap IntKind.i64 (g2.3 * (↑g2.2 : Int))) /\ ((0 = 0) /\ ((List.length g.1.1 = List.length g2.1.1) /\
  ((g.1.2 = g2.1.2) /\ ((Eq (α := List Value) (gC enS g.1.1) (gC enS g2.1.1)) /\ ((Plain (gC enS g.1.1)) /\ True))))))))))))))))))))) (br (!strEq (sub (bs (dgs g)) 1
  (Int.toNat (↑(List.length (Array.toList (ByteArray.data (bs (dgs g))))) : Int))) (ByteArray.mk #[48])) False (∃ g2 : GN, ((g2.2 < 9223372036854775808) /\ ((0 = 0) /\ ((bs
  (dgs g2) = sub (bs (dgs g)) 1 (Int.toNat (↑(List.length (Array.toList (ByteArray.data (bs (dgs g))))) : Int))) /\ ((g2.3 = (-1 : Int)) /\ (((↑(valD []) : Int) = (0 : Int))
  /\ (((↑(List.length (dgs g2)) : Int) = Int.ofNat (List.length (Array.toList (ByteArray.data (sub (bs (dgs g)) 1 (Int.toNat (↑(List.length (Array.toList (ByteArray.data (bs
  (dgs g))))) : Int))))))) /\ (((0 : Int) = (0 : Int)) /\ ((0 = 0) /\ ((List.length g2.1.1 = List.length g.1.1) /\ ((g2.1.2 = g.1.2) /\ ((Eq (α := List Value) (gC enS
  g2.1.1) (gC enS g.1.1)) /\ ((Plain (gC enS g2.1.1)) /\ (∀ (y : Unit), ((True) → (((↑g.2 : Int) = IntKind.wrap IntKind.i64 (g2.3 * (↑g2.2 : Int))) /\ ((0 = 0) /\
  ((List.length g.1.1 = List.length g2.1.1) /\ ((g.1.2 = g2.1.2) /\ ((Eq (α := List Value) (gC enS g.1.1) (gC enS g2.1.1)) /\ ((Plain (gC enS g.1.1)) /\
  True))))))))))))))))))))))) False) False))) False) False) (br (!strEq (bs (dgs g)) (ByteArray.mk #[])) (br (decide ((0 : Int) <= (0 : Int) /\ (0 : Int) < (↑(List.length
  (Array.toList (ByteArray.data (bs (dgs g))))) : Int))) (br (byteAt (bs (dgs g)) 0 != (48 : Int)) (∃ g2 : GN, ((g2.2 < 9223372036854775808) /\ ((0 = 0) /\ ((bs (dgs g2) =
  bs (dgs g)) /\ ((g2.3 = (1 : Int)) /\ (((↑(valD []) : Int) = (0 : Int)) /\ (((↑(List.length (dgs g2)) : Int) = Int.ofNat (List.length (Array.toList (ByteArray.data (bs
  (dgs g)))))) /\ (((0 : Int) = (0 : Int)) /\ ((0 = 0) /\ ((List.length g2.1.1 = List.length g.1.1) /\ ((g2.1.2 = g.1.2) /\ ((Eq (α := List Value) (gC enS g2.1.1) (gC enS
  g.1.1)) /\ ((Plain (gC enS g2.1.1)) /\ (∀ (y : Unit), ((True) → (((↑g.2 : Int) = IntKind.wrap IntKind.i64 (g2.3 * (↑g2.2 : Int))) /\ ((0 = 0) /\ ((List.length g.1.1 =
  List.length g2.1.1) /\ ((g.1.2 = g2.1.2) /\ ((Eq (α := List Value) (gC enS g.1.1) (gC enS g2.1.1)) /\ ((Plain (gC enS g.1.1)) /\ True))))))))))))))))))))) (br (!strEq (bs
  (dgs g)) (ByteArray.mk #[48])) False (∃ g2 : GN, ((g2.2 < 9223372036854775808) /\ ((0 = 0) /\ ((bs (dgs g2) = bs (dgs g)) /\ ((g2.3 = (1 : Int)) /\ (((↑(valD []) : Int) =
  (0 : Int)) /\ (((↑(List.length (dgs g2)) : Int) = Int.ofNat (List.length (Array.toList (ByteArray.data (bs (dgs g)))))) /\ (((0 : Int) = (0 : Int)) /\ ((0 = 0) /\
  ((List.length g2.1.1 = List.length g.1.1) /\ ((g2.1.2 = g.1.2) /\ ((Eq (α := List Value) (gC enS g2.1.1) (gC enS g.1.1)) /\ ((Plain (gC enS g2.1.1)) /\ (∀ (y : Unit),
  ((True) → (((↑g.2 : Int) = IntKind.wrap IntKind.i64 (g2.3 * (↑g2.2 : Int))) /\ ((0 = 0) /\ ((List.length g.1.1 = List.length g2.1.1) /\ ((g.1.2 = g2.1.2) /\ ((Eq (α :=
  List Value) (gC enS g.1.1) (gC enS g2.1.1)) /\ ((Plain (gC enS g.1.1)) /\ True))))))))))))))))))))))) False) False)) False) (br (!strEq (bs (dgs g)) (ByteArray.mk #[]))
  (br (decide ((0 : Int) <= (0 : Int) /\ (0 : Int) < (↑(List.length (Array.toList (ByteArray.data (bs (dgs g))))) : Int))) (br (byteAt (bs (dgs g)) 0 != (48 : Int)) (∃ g2 :
  GN, ((g2.2 < 9223372036854775808) /\ ((0 = 0) /\ ((bs (dgs g2) = bs (dgs g)) /\ ((g2.3 = (1 : Int)) /\ (((↑(valD []) : Int) = (0 : Int)) /\ (((↑(List.length (dgs g2)) :
  Int) = Int.ofNat (List.length (Array.toList (ByteArray.data (bs (dgs g)))))) /\ (((0 : Int) = (0 : Int)) /\ ((0 = 0) /\ ((List.length g2.1.1 = List.length g.1.1) /\
  ((g2.1.2 = g.1.2) /\ ((Eq (α := List Value) (gC enS g2.1.1) (gC enS g.1.1)) /\ ((Plain (gC enS g2.1.1)) /\ (∀ (y : Unit), ((True) → (((↑g.2 : Int) = IntKind.wrap
  IntKind.i64 (g2.3 * (↑g2.2 : Int))) /\ ((0 = 0) /\ ((List.length g.1.1 = List.length g2.1.1) /\ ((g.1.2 = g2.1.2) /\ ((Eq (α := List Value) (gC enS g.1.1) (gC enS g2.1.1))
  /\ ((Plain (gC enS g.1.1)) /\ True))))))))))))))))))))) (br (!strEq (bs (dgs g)) (ByteArray.mk #[48])) False (∃ g2 : GN, ((g2.2 < 9223372036854775808) /\ ((0 = 0) /\ ((bs
  (dgs g2) = bs (dgs g)) /\ ((g2.3 = (1 : Int)) /\ (((↑(valD []) : Int) = (0 : Int)) /\ (((↑(List.length (dgs g2)) : Int) = Int.ofNat (List.length (Array.toList
  (ByteArray.data (bs (dgs g)))))) /\ (((0 : Int) = (0 : Int)) /\ ((0 = 0) /\ ((List.length g2.1.1 = List.length g.1.1) /\ ((g2.1.2 = g.1.2) /\ ((Eq (α := List Value) (gC
  enS g2.1.1) (gC enS g.1.1)) /\ ((Plain (gC enS g2.1.1)) /\ (∀ (y : Unit), ((True) → (((↑g.2 : Int) = IntKind.wrap IntKind.i64 (g2.3 * (↑g2.2 : Int))) /\ ((0 = 0) /\
  ((List.length g.1.1 = List.length g2.1.1) /\ ((g.1.2 = g2.1.2) /\ ((Eq (α := List Value) (gC enS g.1.1) (gC enS g2.1.1)) /\ ((Plain (gC enS g.1.1)) /\
  True))))))))))))))))))))))) False) False)) := by kernel_rfl
theorem Rb_vc (g : GN) : mcall E0 mRn 60 37 [.pointer (some ⟨0, 0, none⟩), .string (bs (45 :: dgs g))] ⟨mkR (nums 0 (rdL g.x)), 2⟩ (retIs 2 (.int .i64 (-(g.u : Nat))) (rdL g.x)) =
  (br (decide (Int.ofNat (List.length (45 :: dgs g)) ≥ (1 : Int))) (br (decide ((0 : Int) <= (↑0 : Int) /\ (↑0 : Int) <= Int.ofNat (List.length (Array.toList (ByteArray.data
  (ByteArray.mk #[45])))) /\ (1 : Int) <= (↑(List.length (45 :: dgs g)) : Int))) (br (decide ((0 : Int) <= (1 : Int) /\ (1 : Int) <= (↑(List.length (45 :: dgs g)) : Int) /\
  (↑(List.length (45 :: dgs g)) : Int) <= (↑(List.length (45 :: dgs g)) : Int))) (br (decide ((0 : Int) <= (1 : Int) /\ (1 : Int) <= (↑(List.length (45 :: dgs g)) : Int) /\
  (↑(List.length (45 :: dgs g)) : Int) <= (↑(List.length (45 :: dgs g)) : Int))) ((Value.string (sub (bs (45 :: dgs g)) 1 (Int.toNat (↑(List.length (45 :: dgs g)) : Int))) =
  Value.string (sub (bs (45 :: dgs g)) 1 (Int.toNat (↑(List.length (45 :: dgs g)) : Int)))) /\ (br (!!strEq (sub (bs (45 :: dgs g)) 1 (Int.toNat (↑(List.length (45 :: dgs
  g)) : Int))) (ByteArray.mk #[48])) False (br (!strEq (sub (bs (45 :: dgs g)) 1 (Int.toNat (↑(List.length (45 :: dgs g)) : Int))) (ByteArray.mk #[])) (br (decide ((0 : Int)
  <= (0 : Int) /\ (0 : Int) < (↑(List.length (Array.toList (ByteArray.data (sub (bs (45 :: dgs g)) 1 (Int.toNat (↑(List.length (45 :: dgs g)) : Int)))))) : Int))) (br
  (byteAt (sub (bs (45 :: dgs g)) 1 (Int.toNat (↑(List.length (45 :: dgs g)) : Int))) 0 != (48 : Int)) (∃ g2 : GN, ((g2.2 < 9223372036854775808) /\ ((0 = 0) /\ ((bs (dgs g2)
  = sub (bs (45 :: dgs g)) 1 (Int.toNat (↑(List.length (45 :: dgs g)) : Int))) /\ ((g2.3 = (-1 : Int)) /\ (((↑(valD []) : Int) = (0 : Int)) /\ (((↑(List.length (dgs g2)) :
  Int) = Int.ofNat (List.length (Array.toList (ByteArray.data (sub (bs (45 :: dgs g)) 1 (Int.toNat (↑(List.length (45 :: dgs g)) : Int))))))) /\ (((0 : Int) = (0 : Int)) /\
  ((0 = 0) /\ ((List.length g2.1.1 = List.length g.1.1) /\ ((g2.1.2 = g.1.2) /\ ((Eq (α := List Value) (gC enS g2.1.1) (gC enS g.1.1)) /\ ((Plain (gC enS g2.1.1)) /\ (∀ (y :
  Unit), ((True) → ((-(↑g.2 : Int) = IntKind.wrap IntKind.i64 (g2.3 * (↑g2.2 : Int))) /\ ((0 = 0) /\ ((List.length g.1.1 = List.length g2.1.1) /\ ((g.1.2 = g2.1.2) /\ ((Eq
  (α := List Value) (gC enS g.1.1) (gC enS g2.1.1)) /\ ((Plain (gC enS g.1.1)) /\ True))))))))))))))))))))) (br (!strEq (sub (bs (45 :: dgs g)) 1 (Int.toNat (↑(List.length
  (45 :: dgs g)) : Int))) (ByteArray.mk #[48])) False (∃ g2 : GN, ((g2.2 < 9223372036854775808) /\ ((0 = 0) /\ ((bs (dgs g2) = sub (bs (45 :: dgs g)) 1 (Int.toNat
  (↑(List.length (45 :: dgs g)) : Int))) /\ ((g2.3 = (-1 : Int)) /\ (((↑(valD []) : Int) = (0 : Int)) /\ (((↑(List.length (dgs g2)) : Int) = Int.ofNat (List.length
  (Array.toList (ByteArray.data (sub (bs (45 :: dgs g)) 1 (Int.toNat (↑(List.length (45 :: dgs g)) : Int))))))) /\ (((0 : Int) = (0 : Int)) /\ ((0 = 0) /\ ((List.length
  g2.1.1 = List.length g.1.1) /\ ((g2.1.2 = g.1.2) /\ ((Eq (α := List Value) (gC enS g2.1.1) (gC enS g.1.1)) /\ ((Plain (gC enS g2.1.1)) /\ (∀ (y : Unit), ((True) → ((-(↑g.2
  : Int) = IntKind.wrap IntKind.i64 (g2.3 * (↑g2.2 : Int))) /\ ((0 = 0) /\ ((List.length g.1.1 = List.length g2.1.1) /\ ((g.1.2 = g2.1.2) /\ ((Eq (α := List Value) (gC enS
  g.1.1) (gC enS g2.1.1)) /\ ((Plain (gC enS g.1.1)) /\ True))))))))))))))))))))))) False) False))) False) False) False) (br (!strEq (bs (45 :: dgs g)) (ByteArray.mk #[]))
  (br (decide ((0 : Int) <= (0 : Int) /\ (0 : Int) < (↑(List.length (45 :: dgs g)) : Int))) (∃ g2 : GN, ((g2.2 < 9223372036854775808) /\ ((0 = 0) /\ ((bs (dgs g2) = bs (45
  :: dgs g)) /\ ((g2.3 = (1 : Int)) /\ (((↑(valD []) : Int) = (0 : Int)) /\ (((↑(List.length (dgs g2)) : Int) = Int.ofNat (List.length (45 :: dgs g))) /\ (((0 : Int) = (0 :
  Int)) /\ ((0 = 0) /\ ((List.length g2.1.1 = List.length g.1.1) /\ ((g2.1.2 = g.1.2) /\ ((Eq (α := List Value) (gC enS g2.1.1) (gC enS g.1.1)) /\ ((Plain (gC enS g2.1.1))
  /\ (∀ (y : Unit), ((True) → ((-(↑g.2 : Int) = IntKind.wrap IntKind.i64 (g2.3 * (↑g2.2 : Int))) /\ ((0 = 0) /\ ((List.length g.1.1 = List.length g2.1.1) /\ ((g.1.2 =
  g2.1.2) /\ ((Eq (α := List Value) (gC enS g.1.1) (gC enS g2.1.1)) /\ ((Plain (gC enS g.1.1)) /\ True))))))))))))))))))))) False) False)) := by kernel_rfl
theorem val_app (a : List UInt8) (c : UInt8) : valD (a ++ [c]) = valD a * 10 + (c.toNat - 48) := by
  unfold valD; rw [List.foldl_append]; rfl
theorem val_dec : ∀ (k u : Nat), u ≤ k → valD (Lib.decDigits u) = u ∧ ∀ c ∈ Lib.decDigits u, 48 ≤ c.toNat ∧ c.toNat ≤ 57
  | k, u, hk => by
    have hc : (UInt8.ofNat (48 + u % 10)).toNat = 48 + u % 10 := by rw [UInt8.toNat_ofNat']; omega
    rw [dec_step u]
    by_cases h : u / 10 = 0
    · rw [if_pos h, List.nil_append]
      refine ⟨?_, fun c hm => ?_⟩
      · show 0 * 10 + ((UInt8.ofNat (48 + u % 10)).toNat - 48) = u
        rw [hc]; omega
      · rw [List.mem_singleton] at hm; rw [hm, hc]; omega
    · rw [if_neg h]
      cases k with
      | zero => omega
      | succ k =>
        obtain ⟨h1, h2⟩ := val_dec k (u / 10) (by omega)
        refine ⟨by rw [val_app, h1, hc]; omega, fun c hm => ?_⟩
        rcases List.mem_append.1 hm with hm | hm
        · exact h2 c hm
        · rw [List.mem_singleton] at hm; rw [hm, hc]; omega
theorem val_take (l : List UInt8) (i : Nat) (h : i < l.length) : valD (l.take (i + 1)) = valD (l.take i) * 10 + (l[i].toNat - 48) := by
  rw [List.take_succ_eq_append_getElem h, val_app]
theorem val_mono (l : List UInt8) : ∀ (d i : Nat), i + d = l.length → valD (l.take i) ≤ valD l
  | 0, i, h => by rw [List.take_of_length_le (by omega)]; exact Nat.le_refl _
  | d + 1, i, h => by
    have h1 := val_mono l d (i + 1) (by omega)
    rw [val_take l i (by omega)] at h1
    omega
theorem Rn_piece : PieceOk E0 2 (37, pRn, specRn) := by
  refine piece_loop mixed (calls_envN _) (lok_envN _) lm_none (n := 60) (by kernel_rfl) (fun _ => (0 : Nat)) (fun g i => i ≤ (dgs g).length) (fun g i => (dgs g).length - i) (sl := slRn) (rl := fun g _ => rdR g.x) (fun g hg => Nat.zero_le _) (fun g i hg hi => ?_)
  refine (Rn_round g i _ _).mpr ?_
  have hg : g.u < 9223372036854775808 := hg
  have hL : (bs (dgs g)).data.toList.length = (dgs g).length := rfl
  have plS : Plain (gC enS g.x.l) := gC_plain (by intro a v hv; simp [enS] at hv; rw [hv]; rfl) _
  obtain ⟨v1, v2⟩ : valD (dgs g) = g.u ∧ ∀ c ∈ dgs g, 48 ≤ c.toNat ∧ c.toNat ≤ 57 := val_dec g.u g.u (Nat.le_refl _)
  have h20 : (dgs g).length ≤ 20 := dec_20 g.u (by omega)
  simp only [ofNat_eq, toNat_cast, Nat.zero_add, Nat.add_zero, Nat.mul_one, List.drop_zero, bCells_len, bCells_drop, bCells_take, bCells_app, bCells_one, bCells_plain, List.length_replicate, List.length_append, List.length_take, List.length_drop, List.take_length, and_true, true_and, and_self, decide_true, List.length_nil, List.length_cons, Nat.sub_zero, dB_mk, dB_ro, List.take_zero, hL]
  refine br_if (fun h => ?_) (fun h => ?_)
  · have h1 : i < (dgs g).length := by omega
    have hb : byteAt (bs (dgs g)) i = ((dgs g)[i].toNat : Int) := byteAt_bs h1
    obtain ⟨b1, b2⟩ := v2 _ (List.getElem_mem h1)
    have hm := val_mono (dgs g) ((dgs g).length - (i + 1)) (i + 1) (by omega)
    have ht := val_take (dgs g) i h1
    rw [ht, v1] at hm
    have w1 : IntKind.i64.wrap ((i : Int) + 1) = ((i + 1 : Nat) : Int) := by rw [wr64_id (by unfold I64; omega)]; omega
    simp only [hb, w1]
    have fin : (dgs g).length - (i + 1) < (dgs g).length - i := by omega
    generalize hV : valD ((dgs g).take i) = V at *
    generalize (dgs g)[i].toNat = c at *
    have e1 : IntKind.i64.wrap (IntKind.u8.wrap ((c : Int) - 48)) = ((c - 48 : Nat) : Int) := by
      rw [wru8, wr64_id (by unfold I64; omega)]; omega
    have e3 : IntKind.i64.wrap (9223372036854775807 - ((c - 48 : Nat) : Int)) = ((9223372036854775807 - (c - 48) : Nat) : Int) := by rw [wr64_id (by unfold I64; omega)]; omega
    have e4 : IntKind.i64.wrap ((((9223372036854775807 - (c - 48) : Nat) : Int)).tdiv 10) = (((9223372036854775807 - (c - 48)) / 10 : Nat) : Int) := by
      rw [Int.tdiv_eq_ediv_of_nonneg (by omega), wr64_id (by unfold I64; omega)]; omega
    have e5 : IntKind.i64.wrap (IntKind.i64.wrap ((V : Int) * 10) + ((c - 48 : Nat) : Int)) = ((V * 10 + (c - 48) : Nat) : Int) := by
      rw [wr64_id (n := (V : Int) * 10) (by unfold I64; omega), wr64_id (by unfold I64; omega)]; omega
    simp only [e1, e3, e4, e5]
    repeat' first
      | refine br_dec (by omega) ?_
      | refine br_nb (by rw [Bool.not_eq_false', decide_eq_true_eq]; omega) ?_
    exact ⟨i + 1, by omega, fin, by rw [ht], rfl, plS⟩
  · have : i = (dgs g).length := by omega
    subst this
    rw [List.take_length, v1]
    exact ⟨(), rfl, plS⟩
theorem dec_head : ∀ (k u : Nat), u ≤ k → ∃ (c : UInt8) (r : List UInt8), Lib.decDigits u = c :: r ∧ (c.toNat = 48 → u = 0)
  | k, u, hk => by
    have hc : (UInt8.ofNat (48 + u % 10)).toNat = 48 + u % 10 := by rw [UInt8.toNat_ofNat']; omega
    rw [dec_step u]
    by_cases h : u / 10 = 0
    · rw [if_pos h, List.nil_append]
      exact ⟨_, [], rfl, fun e => by rw [hc] at e; omega⟩
    · rw [if_neg h]
      cases k with
      | zero => omega
      | succ k =>
        obtain ⟨c, r, e1, e2⟩ := dec_head k (u / 10) (by omega)
        exact ⟨c, r ++ [UInt8.ofNat (48 + u % 10)], by rw [e1]; rfl, fun e => absurd (e2 e) h⟩
theorem Ra_con (g : GN) (h : g.u < 9223372036854775808) : Con Tryz.prog 37 [.pointer (some ⟨0, 0, none⟩), .string (bs (dgs g))] (rdL g.x) (.int .i64 (g.u : Nat)) (rdL g.x) := by
  refine con_vc (E := E0) mixed (calls_envN _) (lok_envN _) (M := mRn) (lm_one Rn_piece) (Ra_vc g) ?_
  have plS : Plain (gC enS g.x.l) := gC_plain (by intro a v hv; simp [enS] at hv; rw [hv]; rfl) _
  have h20 : (dgs g).length ≤ 20 := dec_20 g.u (by omega)
  obtain ⟨c, r, e1, e2⟩ := dec_head g.u g.u (Nat.le_refl _)
  have e1 : dgs g = c :: r := e1
  have hc := (val_dec g.u g.u (Nat.le_refl _)).2 c (by show c ∈ dgs g; rw [e1]; exact List.mem_cons_self ..)
  have hL : (bs (dgs g)).data.toList.length = r.length + 1 := by rw [e1]; rfl
  have hl : (dgs g).length = r.length + 1 := by rw [e1]; rfl
  have hb : byteAt (bs (dgs g)) 0 = (c.toNat : Int) := by rw [byteAt_bs (by omega)]; simp only [e1]; rfl
  simp only [ofNat_eq, toNat_cast, Nat.zero_add, Nat.add_zero, Nat.mul_one, List.drop_zero, bCells_len, bCells_drop, bCells_take, bCells_app, bCells_one, bCells_plain, List.length_replicate, List.length_append, List.length_take, List.length_drop, List.take_length, and_true, true_and, and_self, decide_true, List.length_nil, List.length_cons, Nat.sub_zero, dB_mk, dB_ro, List.take_zero, hL, hb]
  have eB : (⟨#[45]⟩ : ByteArray) = bs [45] := rfl
  have eN : (⟨#[]⟩ : ByteArray) = bs [] := rfl
  have e48 : (⟨#[48]⟩ : ByteArray) = bs [48] := rfl
  have f0 : strEq (sub (bs (dgs g)) 0 1) (bs [45]) = false := by
    rw [e1]
    show strEq (bs [c]) (bs [45]) = false
    rw [strEq_bs]
    refine decide_eq_false fun hh => ?_
    rw [List.cons.injEq] at hh
    rw [hh.1] at hc; exact absurd hc.1 (by decide)
  have f1 : strEq (bs (dgs g)) (bs []) = false := by
    rw [e1, strEq_bs]; exact decide_eq_false fun hh => by cases hh
  have f2 : c.toNat = 48 → strEq (bs (dgs g)) (bs [48]) = true := fun hh => by
    have hu := e2 hh
    have : dgs g = [48] := by unfold dgs; rw [hu, Lib.decDigits, dif_pos (by omega)]; rfl
    rw [this, strEq_bs]; exact decide_eq_true rfl
  have w : ((g.u : Nat) : Int) = IntKind.i64.wrap (1 * ((g.u : Nat) : Int)) := by rw [wr64_id (by unfold I64; omega)]; omega
  simp only [eB, eN, e48, f0, f1, Bool.not_false]
  refine br_dec (by omega) (br_dec (by omega) (br_nb rfl (br_b rfl (br_dec (by omega) (br_ifne (fun hh => ?_) (fun hh => ?_))))))
  · exact ⟨⟨g.x, g.u, 1⟩, h, rfl, rfl, rfl, by show (((dgs g).length : Nat) : Int) = _; rw [hl], rfl, rfl, rfl, plS, fun _ _ => ⟨w, rfl, rfl, rfl, plS⟩⟩
  · rw [f2 (by omega)]
    exact br_nb rfl ⟨⟨g.x, g.u, 1⟩, h, rfl, rfl, rfl, by show (((dgs g).length : Nat) : Int) = _; rw [hl], rfl, rfl, rfl, plS, fun _ _ => ⟨w, rfl, rfl, rfl, plS⟩⟩
theorem Rb_con (g : GN) (h : g.u < 9223372036854775808) (h0 : 0 < g.u) : Con Tryz.prog 37 [.pointer (some ⟨0, 0, none⟩), .string (bs (45 :: dgs g))] (rdL g.x) (.int .i64 (-(g.u : Nat))) (rdL g.x) := by
  refine con_vc (E := E0) mixed (calls_envN _) (lok_envN _) (M := mRn) (lm_one Rn_piece) (Rb_vc g) ?_
  have plS : Plain (gC enS g.x.l) := gC_plain (by intro a v hv; simp [enS] at hv; rw [hv]; rfl) _
  have h20 : (dgs g).length ≤ 20 := dec_20 g.u (by omega)
  obtain ⟨c, r, e1, e2⟩ := dec_head g.u g.u (Nat.le_refl _)
  have e1 : dgs g = c :: r := e1
  have hL : (bs (dgs g)).data.toList.length = r.length + 1 := by rw [e1]; rfl
  have hl : (dgs g).length = r.length + 1 := by rw [e1]; rfl
  have hb : byteAt (bs (dgs g)) 0 = (c.toNat : Int) := by rw [byteAt_bs (by omega)]; simp only [e1]; rfl
  have hs : ∀ n, n = (dgs g).length + 1 → sub (bs (45 :: dgs g)) 1 n = bs (dgs g) := fun n hn => by
    subst hn
    show bs ((dgs g).take ((dgs g).length + 1 - 1)) = _
    rw [Nat.add_sub_cancel, List.take_length]
  have eB : (⟨#[45]⟩ : ByteArray) = bs [45] := rfl
  have eN : (⟨#[]⟩ : ByteArray) = bs [] := rfl
  have e48 : (⟨#[48]⟩ : ByteArray) = bs [48] := rfl
  have c48 : c.toNat ≠ 48 := fun hh => by have := e2 hh; omega
  have f1 : strEq (bs (dgs g)) (bs []) = false := by
    rw [e1, strEq_bs]; exact decide_eq_false fun hh => by cases hh
  have f2 : strEq (bs (dgs g)) (bs [48]) = false := by
    rw [e1, strEq_bs]
    refine decide_eq_false fun hh => ?_
    rw [List.cons.injEq] at hh
    exact c48 (by rw [hh.1]; rfl)
  have w : (-((g.u : Nat) : Int)) = IntKind.i64.wrap (-1 * ((g.u : Nat) : Int)) := by rw [wr64_id (by unfold I64; omega)]; omega
  simp only [ofNat_eq, toNat_cast, Nat.zero_add, Nat.add_zero, Nat.mul_one, List.drop_zero, bCells_len, bCells_drop, bCells_take, bCells_app, bCells_one, bCells_plain, List.length_replicate, List.length_append, List.length_take, List.length_drop, List.take_length, and_true, true_and, and_self, decide_true, List.length_nil, List.length_cons, Nat.sub_zero, dB_mk, dB_ro, List.take_zero, hs _ rfl]
  simp only [ofNat_eq, toNat_cast, Nat.zero_add, Nat.add_zero, Nat.mul_one, List.drop_zero, bCells_len, bCells_drop, bCells_take, bCells_app, bCells_one, bCells_plain, List.length_replicate, List.length_append, List.length_take, List.length_drop, List.take_length, and_true, true_and, and_self, decide_true, List.length_nil, List.length_cons, Nat.sub_zero, dB_mk, dB_ro, List.take_zero, eB, eN, e48, f1, f2, hL, hb, Bool.not_false]
  refine br_dec (by omega) (br_dec (by omega) (br_dec (by omega) (br_dec (by omega) (br_nb rfl (br_b rfl (br_dec (by omega) (br_ifne (fun _ => ?_) (fun hh => absurd hh (by omega)))))))))
  exact ⟨⟨g.x, g.u, -1⟩, h, rfl, rfl, rfl, by show (((dgs g).length : Nat) : Int) = _; rw [hl], rfl, rfl, rfl, plS, fun _ _ => ⟨w, rfl, rfl, rfl, plS⟩⟩
theorem Rn_con (x : RD) (n : Int) (h : I64 n) (h2 : n ≠ -9223372036854775808) : Con Tryz.prog 37 [.pointer (some ⟨0, 0, none⟩), .string (bs (Lib.itoa n))] (rdL x) (.int .i64 n) (rdL x) := by
  unfold I64 at h
  unfold Lib.itoa
  by_cases hn : n < 0
  · rw [if_pos hn]
    have e : (-((n.natAbs : Nat) : Int)) = n := by omega
    have := Rb_con ⟨x, n.natAbs, 0⟩ (by simp only; omega) (by simp only; omega)
    simp only [e] at this
    exact this
  · rw [if_neg hn]
    have e : ((n.toNat : Nat) : Int) = n := by omega
    have := Ra_con ⟨x, n.toNat, 0⟩ (by simp only; omega)
    simp only [e] at this
    exact this
end Go.Proofs.YtnbfhihibgdgpaaGreatDoor.sw
