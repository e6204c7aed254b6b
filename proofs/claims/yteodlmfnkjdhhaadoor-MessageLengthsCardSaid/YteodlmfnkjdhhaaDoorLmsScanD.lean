/- Single fields and lists of fields of a message: what is read of them. -/
import Derived.Test.YteodlmfnkjdhhaaDoorSz9
import Derived.Test.YteodlmfnkjdhhaaDoorRows
import Derived.Test.YteodlmfnkjdhhaaDoorLmsValD
import Derived.Test.YteodlmfnkjdhhaaDoorLtkToken
import Derived.Test.YteodlmfnkjdhhaaDoorLtkLower
set_option maxRecDepth 20000
set_option linter.unusedSimpArgs false
set_option linter.unusedVariables false
namespace Go.Proofs.YteodlmfnkjdhhaaDoor.tk
open Go Go.Ev Go.Sy Go.RowKit Go.Proofs.YteodlmfnkjdhhaaDoor.gl
def dgI (s : ByteArray) (lo hi : Int) : Int := dgV (digL (L s) lo.toNat hi.toNat)
def dgB (s : ByteArray) (lo hi : Int) : Bool := (digL (L s) lo.toNat hi.toNat).isSome
noncomputable def eTok : EntM := entC 16 fun a r => match a, r with
  | [.string s], [] => some ((L s).length ≤ maxLen, .bool (tokS s), [])
  | _, _ => none
noncomputable def eLow : EntM := entC 17 fun a r => match a, r with
  | [.string s], [] => some ((L s).length ≤ maxLen, .string (lowS s), [])
  | _, _ => none
noncomputable def eOc : EntM := entC 19 fun a r => match a, r with
  | [.string s], [] => some (True, .bool (ocS s), [])
  | _, _ => none
noncomputable def eDig : EntM := entC 9 fun a r => match a, r with
  | [.string s, .int .i64 lo, .int .i64 hi], [] => some ((L s).length ≤ maxLen ∧ 0 ≤ lo ∧ 0 ≤ hi ∧ hi ≤ 9, .tuple #[.int .i64 (dgI s lo hi), .bool (dgB s lo hi)], [])
  | _, _ => none
noncomputable def ePl : EntM := entC 11 fun a r => match a, r with
  | [.slice (some ⟨0, 0, none⟩) n 2], [r0] => some (IsF r0 n ∧ n ≤ maxLen ∧ ShR r0, .bool (plR r0), [])
  | _, _ => none
noncomputable def eLen : EntM := entC 10 fun a r => match a, r with
  | [.slice (some ⟨0, 0, none⟩) n 2], [r0] => some (IsF r0 n ∧ n ≤ maxLen ∧ ShR r0, .int .i64 (lenR r0), [])
  | _, _ => none
noncomputable def tPl : List EntM := [eTok, eLow, eVal, eOc]
noncomputable abbrev EtPl : Env := envT Tryd.prog tPl
noncomputable def tLen : List EntM := [eDig]
noncomputable abbrev EtLen : Env := envT Tryd.prog tLen
def pDig : List Nat := [0, 1, 0, 1, 1, 1]
structure StN where
  n : Nat
  i : Nat
def slDig (l : List UInt8) (s : StN) : List (Nat × Value) := [(0, .string (bs l)), (8, .int .i64 (s.n : Nat)), (21, .int .i64 (l.length : Nat)), (22, .int .i64 (s.i : Nat))]
def wsDig (l : List UInt8) : List (Gate Nat) := [⟨.exit 0, fun n => digF l 0 = some n, fun n => [(8, .int .i64 (n : Nat))], fun _ => [], 0⟩, ⟨.ret, fun _ => digF l 0 = none, fun _ => [(6, .int .i64 0), (7, .bool false)], fun _ => [], 0⟩]
def specDig : Sy.Spec := specOf 0 0 45 (fun l : List UInt8 => l.length ≤ 9) (fun l => slDig l ⟨0, 0⟩) (fun _ => []) wsDig
def mDig := mOf [(9, pDig, specDig)]
def pPs : List Nat := [0, 1, 0, 1]
def rl1 (l : List Fl) : List (Nat × Row) := [(0, gRo enF l)]
structure GNm where
  l : List Fl
  nm : List UInt8
def slPl (l : List Fl) (i : Nat) : List (Nat × Value) := [(5, .slice (some ⟨0, 0, none⟩) l.length 2), (6, .int .i64 (l.length : Nat)), (7, .int .i64 (i : Nat))]
def wsPl (l : List Fl) : List (Gate Unit) := [⟨.exit 0, fun _ => plL l = true, fun _ => [], fun _ => rl1 l, 1⟩, ⟨.ret, fun _ => plL l = false, fun _ => [(2, .bool false)], fun _ => rl1 l, 1⟩]
def specPl : Sy.Spec := specOf 1 1 43 (fun l : List Fl => l.length ≤ maxLen ∧ ShortF l) (fun l => slPl l 0) rl1 wsPl
def mPl := mOf [(11, pPs, specPl)]
def pLe : List Nat := [0, 1, 0, 1, 1]
structure StI where
  n : Int
  i : Nat
def slLe (l : List Fl) (s : StI) : List (Nat × Value) := [(3, .int .i64 s.n), (8, .slice (some ⟨0, 0, none⟩) l.length 2), (9, .int .i64 (l.length : Nat)), (10, .int .i64 (s.i : Nat))]
def wsLe (l : List Fl) : List (Gate Unit) := [⟨.exit 0, fun _ => lenL l ≠ -2, fun _ => [(3, .int .i64 (lenL l))], fun _ => rl1 l, 1⟩, ⟨.ret, fun _ => lenL l = -2, fun _ => [(2, .int .i64 (-2))], fun _ => rl1 l, 1⟩]
def specLe : Sy.Spec := specOf 1 1 37 (fun l : List Fl => l.length ≤ maxLen ∧ ShortF l) (fun l => slLe l ⟨-1, 0⟩) rl1 wsLe
def mLe := mOf [(10, pLe, specLe)]
theorem Oc_vc (s : List UInt8) (b : Bool) : mcall E0 noM 60 19 [.string (bs s)] ⟨mkR (nums 0 []), 0⟩ (retIs 0 (.bool b) []) =
  (br (strEq (bs s) (ByteArray.mk #[99, 111, 110, 110, 101, 99, 116, 105, 111, 110])) ((b = true) /\ True) (br (strEq (bs s) (ByteArray.mk #[112, 114, 111, 120, 121, 45, 99,
  111, 110, 110, 101, 99, 116, 105, 111, 110])) ((b = true) /\ True) (br (strEq (bs s) (ByteArray.mk #[107, 101, 101, 112, 45, 97, 108, 105, 118, 101])) ((b = true) /\ True)
  (br (strEq (bs s) (ByteArray.mk #[116, 114, 97, 110, 115, 102, 101, 114, 45, 101, 110, 99, 111, 100, 105, 110, 103])) ((b = true) /\ True) (br (strEq (bs s) (ByteArray.mk
  #[117, 112, 103, 114, 97, 100, 101])) ((b = true) /\ True) ((b = false) /\ True)))))) := by kernel_rfl
theorem Dig_round (l : List UInt8) (s : StN) (Inv : StN → Prop) (m : StN → Nat) : mev E0 noM 60 9 (0 :: pDig) false (codeOf Tryd.prog 9 (0 :: pDig)) ⟨mkOv (slDig l s), 45, []⟩ none ⟨mkR [], 0⟩ (roundK 0 0 45 Inv m (slDig l) (fun _ => []) (wsDig l) s) =
  (br (decide ((↑s.2 : Int) < (↑(List.length l) : Int))) (br (decide ((0 : Int) <= (↑s.2 : Int) /\ (↑s.2 : Int) < (↑(List.length (Array.toList (ByteArray.data (bs l)))) :
  Int))) (br (decide (byteAt (bs l) (Int.toNat (↑s.2 : Int)) < (48 : Int))) (∃ y : Nat, ((Eq (α := Option Nat) (digF l 0) (none)) /\ (((0 : Int) = (0 : Int)) /\ ((false =
  false) /\ True)))) (br (decide ((0 : Int) <= (↑s.2 : Int) /\ (↑s.2 : Int) < (↑(List.length (Array.toList (ByteArray.data (bs l)))) : Int))) (br (decide (byteAt (bs l)
  (Int.toNat (↑s.2 : Int)) > (57 : Int))) (∃ y : Nat, ((Eq (α := Option Nat) (digF l 0) (none)) /\ (((0 : Int) = (0 : Int)) /\ ((false = false) /\ True)))) (br (decide ((0 :
  Int) <= (↑s.2 : Int) /\ (↑s.2 : Int) < (↑(List.length (Array.toList (ByteArray.data (bs l)))) : Int))) (∃ j : StN, ((Inv j) /\ ((m j < m s) /\ ((bs l = bs l) /\ (((↑j.1 :
  Int) = IntKind.wrap IntKind.i64 (IntKind.wrap IntKind.i64 ((↑s.1 : Int) * (10 : Int)) + IntKind.wrap IntKind.i64 (IntKind.wrap IntKind.u8 (byteAt (bs l) (Int.toNat (↑s.2 :
  Int)) - (48 : Int))))) /\ (((↑(List.length l) : Int) = (↑(List.length l) : Int)) /\ (((↑j.2 : Int) = IntKind.wrap IntKind.i64 ((↑s.2 : Int) + (1 : Int))) /\ True)))))))
  False)) False)) False) (∃ y : Nat, ((Eq (α := Option Nat) (digF l 0) (some y)) /\ (((↑y : Int) = (↑s.1 : Int)) /\ True)))) := by kernel_rfl
theorem Dig_vc (l : List UInt8) (lo hi v : Int) (b : Bool) : mcall E0 mDig 60 9 [.string (bs l), .int .i64 lo, .int .i64 hi] ⟨mkR (nums 0 []), 0⟩ (retIs 0 (.tuple #[.int .i64 v, .bool b]) []) =
  (br (decide (Int.ofNat (List.length (Array.toList (ByteArray.data (bs l)))) < lo)) ((v = (0 : Int)) /\ ((b = false) /\ True)) (br (decide (Int.ofNat (List.length
  (Array.toList (ByteArray.data (bs l)))) > hi)) ((v = (0 : Int)) /\ ((b = false) /\ True)) (∃ g : List UInt8, ((List.length g <= 9) /\ ((bs g = bs l) /\ (((0 : Int) = (0 :
  Int)) /\ (((↑(List.length g) : Int) = Int.ofNat (List.length (Array.toList (ByteArray.data (bs l))))) /\ (((0 : Int) = (0 : Int)) /\ (∀ (side : Bool), (br (side) (∀ (y :
  Nat), ((digF g 0 = some y) → ((v = (↑y : Int)) /\ ((b = true) /\ True)))) (∀ (y : Nat), ((digF g 0 = none) → ((v = (0 : Int)) /\ ((b = false) /\ True)))))))))))))) := by kernel_rfl
theorem Pl_round (l : List Fl) (s : Nat) (Inv : Nat → Prop) (m : Nat → Nat) : mev EtPl noM 60 11 (0 :: pPs) false (codeOf Tryd.prog 11 (0 :: pPs)) ⟨mkOv (slPl l s), 43, []⟩ none ⟨mkR (rl1 l), 1⟩ (roundK 1 1 43 Inv m (slPl l) (fun _ => rl1 l) (wsPl l) s) =
  (br (decide ((↑s : Int) < (↑(List.length l) : Int))) (br (decide ((0 : Int) <= (↑s : Int) /\ (↑s : Int) < (↑(List.length l) : Int))) ((Eq (α := Option Value) ((gC enF l)[0
  + Int.toNat (↑s : Int) * 2]?) (some (Value.string (cellS (gC enF l) (0 + Int.toNat (↑s : Int) * 2))))) /\ ((Eq (α := Option Value) ((gC enF l)[0 + Int.toNat (↑s : Int) * 2
  + 1]?) (some (Value.string (cellS (gC enF l) (0 + Int.toNat (↑s : Int) * 2 + 1))))) /\ ((((True /\ True) /\ (True /\ (True /\ List.length (L (cellS (gC enF l) (0 +
  Int.toNat (↑s : Int) * 2))) <= 9223372036854775807)))) /\ (br (!tokS (cellS (gC enF l) (0 + Int.toNat (↑s : Int) * 2))) ((Value.string (cellS (gC enF l) (0 + Int.toNat (↑s
  : Int) * 2)) = Value.string (cellS (gC enF l) (0 + Int.toNat (↑s : Int) * 2))) /\ (∃ y : Unit, ((plL l = false) /\ ((false = false) /\ ((Eq (α := List Value) (gC enF l)
  (gC enF l)) /\ ((Plain (gC enF l)) /\ True)))))) ((((True /\ True) /\ (True /\ (True /\ List.length (L (cellS (gC enF l) (0 + Int.toNat (↑s : Int) * 2))) <=
  9223372036854775807)))) /\ (br (!strEq (lowS (cellS (gC enF l) (0 + Int.toNat (↑s : Int) * 2))) (cellS (gC enF l) (0 + Int.toNat (↑s : Int) * 2))) ((Value.string (cellS
  (gC enF l) (0 + Int.toNat (↑s : Int) * 2)) = Value.string (cellS (gC enF l) (0 + Int.toNat (↑s : Int) * 2))) /\ ((Value.string (cellS (gC enF l) (0 + Int.toNat (↑s : Int)
  * 2)) = Value.string (cellS (gC enF l) (0 + Int.toNat (↑s : Int) * 2))) /\ ((Value.string (cellS (gC enF l) (0 + Int.toNat (↑s : Int) * 2)) = Value.string (cellS (gC enF
  l) (0 + Int.toNat (↑s : Int) * 2))) /\ ((Value.string (cellS (gC enF l) (0 + Int.toNat (↑s : Int) * 2)) = Value.string (cellS (gC enF l) (0 + Int.toNat (↑s : Int) * 2)))
  /\ (∃ y : Unit, ((plL l = false) /\ ((false = false) /\ ((Eq (α := List Value) (gC enF l) (gC enF l)) /\ ((Plain (gC enF l)) /\ True))))))))) ((((True /\ True) /\ (True /\
  (True /\ List.length (L (cellS (gC enF l) (0 + Int.toNat (↑s : Int) * 2 + 1))) <= 9223372036854775807)))) /\ ((Value.string (cellS (gC enF l) (0 + Int.toNat (↑s : Int) *
  2)) = Value.string (cellS (gC enF l) (0 + Int.toNat (↑s : Int) * 2))) /\ ((Value.string (cellS (gC enF l) (0 + Int.toNat (↑s : Int) * 2)) = Value.string (cellS (gC enF l)
  (0 + Int.toNat (↑s : Int) * 2))) /\ ((Value.string (cellS (gC enF l) (0 + Int.toNat (↑s : Int) * 2)) = Value.string (cellS (gC enF l) (0 + Int.toNat (↑s : Int) * 2))) /\
  ((Value.string (cellS (gC enF l) (0 + Int.toNat (↑s : Int) * 2)) = Value.string (cellS (gC enF l) (0 + Int.toNat (↑s : Int) * 2))) /\ ((Value.string (cellS (gC enF l) (0 +
  Int.toNat (↑s : Int) * 2 + 1)) = Value.string (cellS (gC enF l) (0 + Int.toNat (↑s : Int) * 2 + 1))) /\ (br (!valS (cellS (gC enF l) (0 + Int.toNat (↑s : Int) * 2 + 1)))
  (∃ y : Unit, ((plL l = false) /\ ((false = false) /\ ((Eq (α := List Value) (gC enF l) (gC enF l)) /\ ((Plain (gC enF l)) /\ True))))) ((((True /\ True) /\ (True /\ (True
  /\ True)))) /\ (br (ocS (cellS (gC enF l) (0 + Int.toNat (↑s : Int) * 2))) (∃ y : Unit, ((plL l = false) /\ ((false = false) /\ ((Eq (α := List Value) (gC enF l) (gC enF
  l)) /\ ((Plain (gC enF l)) /\ True))))) (br (strEq (cellS (gC enF l) (0 + Int.toNat (↑s : Int) * 2)) (ByteArray.mk #[116, 101])) (br (!strEq (cellS (gC enF l) (0 +
  Int.toNat (↑s : Int) * 2 + 1)) (ByteArray.mk #[116, 114, 97, 105, 108, 101, 114, 115])) (∃ y : Unit, ((plL l = false) /\ ((false = false) /\ ((Eq (α := List Value) (gC enF
  l) (gC enF l)) /\ ((Plain (gC enF l)) /\ True))))) (∃ j : Nat, ((Inv j) /\ ((m j < m s) /\ ((0 = 0) /\ ((List.length l = List.length l) /\ (((↑(List.length l) : Int) =
  (↑(List.length l) : Int)) /\ (((↑j : Int) = IntKind.wrap IntKind.i64 ((↑s : Int) + (1 : Int))) /\ ((Eq (α := List Value) (gC enF l) (gC enF l)) /\ ((Plain (gC enF l)) /\
  True)))))))))) (∃ j : Nat, ((Inv j) /\ ((m j < m s) /\ ((0 = 0) /\ ((List.length l = List.length l) /\ (((↑(List.length l) : Int) = (↑(List.length l) : Int)) /\ (((↑j :
  Int) = IntKind.wrap IntKind.i64 ((↑s : Int) + (1 : Int))) /\ ((Eq (α := List Value) (gC enF l) (gC enF l)) /\ ((Plain (gC enF l)) /\ True))))))))))))))))))))))))) False)
  (∃ y : Unit, ((plL l = true) /\ ((Eq (α := List Value) (gC enF l) (gC enF l)) /\ ((Plain (gC enF l)) /\ True))))) := by kernel_rfl
theorem Pl_vc (l : List Fl) (v : Bool) : mcall EtPl mPl 60 11 [.slice (some ⟨0, 0, none⟩) l.length 2] ⟨mkR (nums 0 [gRo enF l]), 1⟩ (retIs 1 (.bool v) [gRo enF l]) =
  (∃ g : List Fl, ((List.length g <= 9223372036854775807 /\ ShortF g) /\ ((0 = 0) /\ ((List.length g = List.length l) /\ (((↑(List.length g) : Int) = Int.ofNat (List.length
  l)) /\ (((0 : Int) = (0 : Int)) /\ ((Eq (α := List Value) (gC enF g) (gC enF l)) /\ ((Plain (gC enF g)) /\ (∀ (side : Bool), (br (side) (∀ (y : Unit), ((plL g = true) →
  ((v = true) /\ ((Eq (α := List Value) (gC enF l) (gC enF g)) /\ ((Plain (gC enF l)) /\ True))))) (∀ (y : Unit), ((plL g = false) → ((v = false) /\ ((Eq (α := List Value)
  (gC enF l) (gC enF g)) /\ ((Plain (gC enF l)) /\ True))))))))))))))) := by kernel_rfl
theorem Le_round (l : List Fl) (s : StI) (Inv : StI → Prop) (m : StI → Nat) : mev EtLen noM 60 10 (0 :: pLe) false (codeOf Tryd.prog 10 (0 :: pLe)) ⟨mkOv (slLe l s), 37, []⟩ none ⟨mkR (rl1 l), 1⟩ (roundK 1 1 37 Inv m (slLe l) (fun _ => rl1 l) (wsLe l) s) =
  (br (decide ((↑s.2 : Int) < (↑(List.length l) : Int))) (br (decide ((0 : Int) <= (↑s.2 : Int) /\ (↑s.2 : Int) < (↑(List.length l) : Int))) ((Eq (α := Option Value) ((gC
  enF l)[0 + Int.toNat (↑s.2 : Int) * 2]?) (some (Value.string (cellS (gC enF l) (0 + Int.toNat (↑s.2 : Int) * 2))))) /\ ((Eq (α := Option Value) ((gC enF l)[0 + Int.toNat
  (↑s.2 : Int) * 2 + 1]?) (some (Value.string (cellS (gC enF l) (0 + Int.toNat (↑s.2 : Int) * 2 + 1))))) /\ (br (!strEq (cellS (gC enF l) (0 + Int.toNat (↑s.2 : Int) * 2))
  (ByteArray.mk #[99, 111, 110, 116, 101, 110, 116, 45, 108, 101, 110, 103, 116, 104])) (∃ j : StI, ((Inv j) /\ ((m j < m s) /\ ((j.1 = s.1) /\ ((0 = 0) /\ ((List.length l =
  List.length l) /\ (((↑(List.length l) : Int) = (↑(List.length l) : Int)) /\ (((↑j.2 : Int) = IntKind.wrap IntKind.i64 ((↑s.2 : Int) + (1 : Int))) /\ ((Eq (α := List Value)
  (gC enF l) (gC enF l)) /\ ((Plain (gC enF l)) /\ True)))))))))) ((((True /\ (True /\ (True /\ True))) /\ (True /\ (True /\ (List.length (L (cellS (gC enF l) (0 + Int.toNat
  (↑s.2 : Int) * 2 + 1))) <= 9223372036854775807 /\ ((0 : Int) <= (1 : Int) /\ ((0 : Int) <= (9 : Int) /\ (9 : Int) <= (9 : Int)))))))) /\ (br (!dgB (cellS (gC enF l) (0 +
  Int.toNat (↑s.2 : Int) * 2 + 1)) (1 : Int) (9 : Int)) (∃ y : Unit, ((lenL l = (-2 : Int)) /\ (((-2 : Int) = (-2 : Int)) /\ ((Eq (α := List Value) (gC enF l) (gC enF l)) /\
  ((Plain (gC enF l)) /\ True))))) (br (s.1 != (-1 : Int)) (br (dgI (cellS (gC enF l) (0 + Int.toNat (↑s.2 : Int) * 2 + 1)) (1 : Int) (9 : Int) != s.1) (∃ y : Unit, ((lenL l
  = (-2 : Int)) /\ (((-2 : Int) = (-2 : Int)) /\ ((Eq (α := List Value) (gC enF l) (gC enF l)) /\ ((Plain (gC enF l)) /\ True))))) (∃ j : StI, ((Inv j) /\ ((m j < m s) /\
  ((j.1 = dgI (cellS (gC enF l) (0 + Int.toNat (↑s.2 : Int) * 2 + 1)) (1 : Int) (9 : Int)) /\ ((0 = 0) /\ ((List.length l = List.length l) /\ (((↑(List.length l) : Int) =
  (↑(List.length l) : Int)) /\ (((↑j.2 : Int) = IntKind.wrap IntKind.i64 ((↑s.2 : Int) + (1 : Int))) /\ ((Eq (α := List Value) (gC enF l) (gC enF l)) /\ ((Plain (gC enF l))
  /\ True))))))))))) (∃ j : StI, ((Inv j) /\ ((m j < m s) /\ ((j.1 = dgI (cellS (gC enF l) (0 + Int.toNat (↑s.2 : Int) * 2 + 1)) (1 : Int) (9 : Int)) /\ ((0 = 0) /\
  ((List.length l = List.length l) /\ (((↑(List.length l) : Int) = (↑(List.length l) : Int)) /\ (((↑j.2 : Int) = IntKind.wrap IntKind.i64 ((↑s.2 : Int) + (1 : Int))) /\ ((Eq
  (α := List Value) (gC enF l) (gC enF l)) /\ ((Plain (gC enF l)) /\ True)))))))))))))))) False) (∃ y : Unit, ((lenL l ≠ (-2 : Int)) /\ ((lenL l = s.1) /\ ((Eq (α := List
  Value) (gC enF l) (gC enF l)) /\ ((Plain (gC enF l)) /\ True)))))) := by kernel_rfl
theorem Le_vc (l : List Fl) (v : Int) : mcall EtLen mLe 60 10 [.slice (some ⟨0, 0, none⟩) l.length 2] ⟨mkR (nums 0 [gRo enF l]), 1⟩ (retIs 1 (.int .i64 v) [gRo enF l]) =
  (∃ g : List Fl, ((List.length g <= 9223372036854775807 /\ ShortF g) /\ (((-1 : Int) = (-1 : Int)) /\ ((0 = 0) /\ ((List.length g = List.length l) /\ (((↑(List.length g) :
  Int) = Int.ofNat (List.length l)) /\ (((0 : Int) = (0 : Int)) /\ ((Eq (α := List Value) (gC enF g) (gC enF l)) /\ ((Plain (gC enF g)) /\ (∀ (side : Bool), (br (side) (∀ (y
  : Unit), ((lenL g ≠ (-2 : Int)) → ((v = lenL g) /\ ((Eq (α := List Value) (gC enF l) (gC enF g)) /\ ((Plain (gC enF l)) /\ True))))) (∀ (y : Unit), ((lenL g = (-2 : Int))
  → ((v = (-2 : Int)) /\ ((Eq (α := List Value) (gC enF l) (gC enF g)) /\ ((Plain (gC enF l)) /\ True)))))))))))))))) := by kernel_rfl
theorem eTok_ok : EntOk Tryd.prog eTok := entC_ok (by
  intro a rows p v news h hp
  split at h <;> simp only [Option.some.injEq, Prod.mk.injEq, reduceCtorEq] at h
  obtain ⟨rfl, rfl, rfl⟩ := h
  exact Tok_con (L _) hp)
theorem eLow_ok : EntOk Tryd.prog eLow := entC_ok (by
  intro a rows p v news h hp
  split at h <;> simp only [Option.some.injEq, Prod.mk.injEq, reduceCtorEq] at h
  obtain ⟨rfl, rfl, rfl⟩ := h
  exact Low_con (L _) hp)
theorem Oc_con (s : ByteArray) : Con Tryd.prog 19 [.string s] [] (.bool (ocS s)) [] := by
  obtain ⟨s, rfl⟩ : ∃ l, s = bs l := ⟨L s, rfl⟩
  refine con_vc (E := E0) mixed (calls_envN _) (lok_envN _) (M := noM) lm_none (Oc_vc s _) ?_
  simp only [ofNat_eq, toNat_cast, Nat.zero_add, Nat.add_zero, Nat.mul_one, List.drop_zero, bCells_len, bCells_drop, bCells_take, bCells_app, bCells_one, bCells_plain, List.length_replicate, List.length_append, List.length_take, List.length_drop, List.take_length, and_true, true_and, and_self, decide_true, List.length_nil, List.length_cons, Nat.sub_zero, dB_mk, dB_ro, List.take_zero]
  unfold ocS ocL
  have q1 : (⟨#[99, 111, 110, 110, 101, 99, 116, 105, 111, 110]⟩ : ByteArray) = bs sConn := rfl
  have q2 : (⟨#[112, 114, 111, 120, 121, 45, 99, 111, 110, 110, 101, 99, 116, 105, 111, 110]⟩ : ByteArray) = bs sPConn := rfl
  have q3 : (⟨#[107, 101, 101, 112, 45, 97, 108, 105, 118, 101]⟩ : ByteArray) = bs sKeep := rfl
  have q4 : (⟨#[116, 114, 97, 110, 115, 102, 101, 114, 45, 101, 110, 99, 111, 100, 105, 110, 103]⟩ : ByteArray) = bs sTrEn := rfl
  have q5 : (⟨#[117, 112, 103, 114, 97, 100, 101]⟩ : ByteArray) = bs sUpg := rfl
  simp only [q1, q2, q3, q4, q5, strEq_bs, L_bse]
  repeat' refine br_intro (fun _ => ?_) (fun _ => ?_)
  all_goals simp_all
theorem Dig_piece : PieceOk E0 0 (9, pDig, specDig) := by
  refine piece_loop mixed (calls_envN _) (lok_envN _) lm_none (n := 60) (by kernel_rfl) (fun _ : List UInt8 => (⟨0, 0⟩ : StN)) (fun l s => s.i ≤ l.length ∧ s.n < 10 ^ s.i ∧ digF l 0 = digF (l.drop s.i) s.n) (fun l s => l.length - s.i) (sl := slDig) (rl := fun _ _ => []) (fun l hg => ⟨Nat.zero_le _, by simp, rfl⟩) (fun l s hg hi => ?_)
  refine (Dig_round l s _ _).mpr ?_
  obtain ⟨n, i⟩ := s
  obtain ⟨h1, h2, h3⟩ := hi
  simp only at h1 h2 h3
  simp only [ofNat_eq, toNat_cast, Nat.zero_add, Nat.add_zero, Nat.mul_one, List.drop_zero, bCells_len, bCells_drop, bCells_take, bCells_app, bCells_one, bCells_plain, List.length_replicate, List.length_append, List.length_take, List.length_drop, List.take_length, and_true, true_and, and_self, decide_true, List.length_nil, List.length_cons, Nat.sub_zero, dB_mk, dB_ro, List.take_zero, bs_dd]
  have hg' : l.length ≤ 9 := hg
  refine br_if (fun h => br_dec (by omega) ?_) (fun h => ⟨n, by rw [h3, List.drop_eq_nil_of_le (by omega)]; rfl, rfl⟩)
  have hi : i < l.length := by omega
  have hd := List.drop_eq_getElem_cons hi
  rw [hd, digF] at h3
  rw [byteAt_bs hi]
  generalize l[i] = c at *
  have hb := u8_lt c
  have w : IntKind.wrap .i64 ((i : Int) + 1) = ((i + 1 : Nat) : Int) := i64_succ (by omega)
  have dig : isDg c = decide (48 ≤ c.toNat ∧ c.toNat ≤ 57) := rfl
  refine br_if (fun k => ⟨0, by rw [h3, if_neg (by rw [dig, decide_eq_false (by omega)]; simp)]⟩) (fun k1 => br_dec (by omega) (br_if (fun k => ⟨0, by rw [h3, if_neg (by rw [dig, decide_eq_false (by omega)]; simp)]⟩) (fun k2 => br_dec (by omega) ?_)))
  rw [if_pos (by rw [dig, decide_eq_true (by omega)])] at h3
  have hp : 10 ^ i ≤ 10 ^ 8 := Nat.pow_le_pow_right (by omega) (by omega)
  refine ⟨⟨n * 10 + (c.toNat - 48), i + 1⟩, ⟨by simp only; omega, ?_, h3⟩, by simp only; omega, ?_, by rw [w]⟩
  · simp only; rw [Nat.pow_succ]; omega
  · rw [wru8, wr64_id (n := (n : Int) * 10) (by unfold I64; omega), wr64_id (n := (((c.toNat : Nat) : Int) - 48) % 256) (by unfold I64; omega), wr64_id (by unfold I64; omega)]; simp only; omega
theorem Dig_con (l : List UInt8) (lo hi : Int) (hl : l.length ≤ maxLen) (h1 : 0 ≤ lo) (h2 : 0 ≤ hi) (h3 : hi ≤ 9) : Con Tryd.prog 9 [.string (bs l), .int .i64 lo, .int .i64 hi] [] (.tuple #[.int .i64 (dgV (digL l lo.toNat hi.toNat)), .bool (digL l lo.toNat hi.toNat).isSome]) [] := by
  refine con_vc (E := E0) mixed (calls_envN _) (lok_envN _) (M := mDig) (lm_one Dig_piece) (Dig_vc l lo hi _ _) ?_
  simp only [ofNat_eq, toNat_cast, Nat.zero_add, Nat.add_zero, Nat.mul_one, List.drop_zero, bCells_len, bCells_drop, bCells_take, bCells_app, bCells_one, bCells_plain, List.length_replicate, List.length_append, List.length_take, List.length_drop, List.take_length, and_true, true_and, and_self, decide_true, List.length_nil, List.length_cons, Nat.sub_zero, dB_mk, dB_ro, List.take_zero, bs_dd]
  unfold digL
  refine br_if (fun k => ?_) (fun k => br_if (fun k2 => ?_) (fun k2 => ⟨l, by omega, rfl, rfl, br_side (fun y hy => ?_) (fun y hy => ?_)⟩))
  · rw [if_neg (by omega)]; exact ⟨rfl, rfl⟩
  · rw [if_neg (by omega)]; exact ⟨rfl, rfl⟩
  · rw [if_pos ⟨by omega, by omega⟩, hy]; exact ⟨rfl, rfl⟩
  · rw [if_pos ⟨by omega, by omega⟩, hy]; exact ⟨rfl, rfl⟩
theorem eOc_ok : EntOk Tryd.prog eOc := entC_ok (by
  intro a rows p v news h hp
  split at h <;> simp only [Option.some.injEq, Prod.mk.injEq, reduceCtorEq] at h
  obtain ⟨rfl, rfl, rfl⟩ := h
  exact Oc_con _)
theorem eDig_ok : EntOk Tryd.prog eDig := entC_ok (by
  intro a rows p v news h hp
  split at h <;> simp only [Option.some.injEq, Prod.mk.injEq, reduceCtorEq] at h
  obtain ⟨rfl, rfl, rfl⟩ := h
  exact Dig_con (L _) _ _ hp.1 hp.2.1 hp.2.2.1 hp.2.2.2)
theorem tPl_ok : ∀ x ∈ tPl, EntOk Tryd.prog x := all_cons eTok_ok (all_cons eLow_ok (all_cons eVal_ok (all_cons eOc_ok (all_nil))))
theorem tLen_ok : ∀ x ∈ tLen, EntOk Tryd.prog x := all_cons eDig_ok (all_nil)
theorem plL_at {l : List Fl} {i : Nat} (hi : i < l.length) : plL (l.take (i + 1)) = (plL (l.take i) && plF l[i]) := by
  unfold plL
  rw [List.take_succ_eq_append_getElem hi, List.all_append]; simp
theorem plL_no {l : List Fl} {i : Nat} (hi : i < l.length) (h : plF l[i] = false) : plL l = false := by
  unfold plL
  rw [List.all_eq_false]
  exact ⟨l[i], List.getElem_mem hi, by simp [h]⟩
theorem Pl_piece : PieceOk EtPl 1 (11, pPs, specPl) := by
  refine piece_loop mixed (calls_envT tPl_ok) (lok_envT _ _) lm_none (n := 60) (by kernel_rfl) (fun _ : List Fl => (0 : Nat)) (fun l i => i ≤ l.length ∧ plL (l.take i) = true) (fun l i => l.length - i) (sl := slPl) (rl := fun l _ => rl1 l) (fun l hg => ⟨Nat.zero_le _, rfl⟩) (fun l i hg hi => ?_)
  refine (Pl_round l i _ _).mpr ?_
  obtain ⟨h1, h2⟩ := hi
  obtain ⟨g1, g2⟩ := hg
  have hm : maxLen = 9223372036854775807 := by unfold maxLen; rfl
  simp only [ofNat_eq, toNat_cast, Nat.zero_add, Nat.add_zero, Nat.mul_one, List.drop_zero, bCells_len, bCells_drop, bCells_take, bCells_app, bCells_one, bCells_plain, List.length_replicate, List.length_append, List.length_take, List.length_drop, List.take_length, and_true, true_and, and_self, decide_true, List.length_nil, List.length_cons, Nat.sub_zero, dB_mk, dB_ro, List.take_zero, fPl, bs_dd]
  refine br_if (fun h => br_dec (by omega) ?_) (fun h => ⟨(), by rw [List.take_of_length_le (by omega)] at h2; exact h2⟩)
  have hi : i < l.length := by omega
  obtain ⟨c1, c2, c3, c4⟩ := fGet l i hi
  have ha := plL_at hi
  have hn := plL_no hi
  have hs := g2 _ (List.getElem_mem hi)
  have w : IntKind.wrap .i64 ((i : Int) + 1) = ((i + 1 : Nat) : Int) := i64_succ (by omega)
  generalize l[i] = f at *
  have q1 : (⟨#[116, 101]⟩ : ByteArray) = bs sTe := rfl
  have q2 : (⟨#[116, 114, 97, 105, 108, 101, 114, 115]⟩ : ByteArray) = bs sTrail := rfl
  simp only [c1, c2, c3, c4, w, q1, q2, tokS_bs, lowS_bs, strEq_bs, valS, ocS, L_bse]
  have no : plF f = false → ∃ y : Unit, plL l = false := fun h => ⟨(), hn h⟩
  have go : plF f = true → ∃ j, (j ≤ l.length ∧ plL (l.take j) = true) ∧ l.length - j < l.length - i ∧ (j : Int) = ((i + 1 : Nat) : Int) := fun h => ⟨i + 1, ⟨by omega, by rw [ha, h2, h]; rfl⟩, by omega, rfl⟩
  have key : plF f = (tokL f.n && (decide (lowerL f.n = f.n) && (valL f.v && (!ocL f.n && !(decide (f.n = sTe) && !decide (f.v = sTrail)))))) := rfl
  refine ⟨trivial, trivial, by omega, br_intro (fun k => no ?_) (fun k1 => ⟨by omega, br_intro (fun k => no ?_) (fun k2 => ⟨by omega, br_intro (fun k => no ?_) (fun k3 => br_intro (fun k => no ?_) (fun k4 => br_intro (fun k5 => br_intro (fun k => no ?_) (fun k6 => go ?_)) (fun k5 => go ?_)))⟩)⟩)⟩
  all_goals (rw [key]; simp_all)
theorem Pl_con (l : List Fl) (h : l.length ≤ maxLen) (hs : ShortF l) : Con Tryd.prog 11 [.slice (some ⟨0, 0, none⟩) l.length 2] [gRo enF l] (.bool (plL l)) [gRo enF l] := by
  refine con_vc (E := EtPl) mixed (calls_envT tPl_ok) (lok_envT _ _) (M := mPl) (lm_one Pl_piece) (Pl_vc l _) ?_
  have hm : maxLen = 9223372036854775807 := by unfold maxLen; rfl
  simp only [ofNat_eq, toNat_cast, Nat.zero_add, Nat.add_zero, Nat.mul_one, List.drop_zero, bCells_len, bCells_drop, bCells_take, bCells_app, bCells_one, bCells_plain, List.length_replicate, List.length_append, List.length_take, List.length_drop, List.take_length, and_true, true_and, and_self, decide_true, List.length_nil, List.length_cons, Nat.sub_zero, dB_mk, dB_ro, List.take_zero, fPl, bs_dd]
  exact ⟨l, ⟨by omega, hs⟩, rfl, rfl, rfl, br_side (fun y hy => ⟨hy, rfl⟩) (fun y hy => ⟨hy, rfl⟩)⟩
theorem Le_piece : PieceOk EtLen 1 (10, pLe, specLe) := by
  refine piece_loop mixed (calls_envT tLen_ok) (lok_envT _ _) lm_none (n := 60) (by kernel_rfl) (fun _ : List Fl => (⟨-1, 0⟩ : StI)) (fun l s => s.i ≤ l.length ∧ (-1 ≤ s.n ∧ s.n < 1000000000) ∧ lenL l = lenG s.n (l.drop s.i)) (fun l s => l.length - s.i) (sl := slLe) (rl := fun l _ => rl1 l) (fun l hg => ⟨Nat.zero_le _, by simp, rfl⟩) (fun l s hg hi => ?_)
  refine (Le_round l s _ _).mpr ?_
  obtain ⟨n, i⟩ := s
  obtain ⟨h1, h2, h3⟩ := hi
  obtain ⟨g1, g2⟩ := hg
  have hm : maxLen = 9223372036854775807 := by unfold maxLen; rfl
  simp only at h1 h2 h3
  simp only [ofNat_eq, toNat_cast, Nat.zero_add, Nat.add_zero, Nat.mul_one, List.drop_zero, bCells_len, bCells_drop, bCells_take, bCells_app, bCells_one, bCells_plain, List.length_replicate, List.length_append, List.length_take, List.length_drop, List.take_length, and_true, true_and, and_self, decide_true, List.length_nil, List.length_cons, Nat.sub_zero, dB_mk, dB_ro, List.take_zero, fPl, bs_dd]
  refine br_if (fun h => br_dec (by omega) ?_) (fun h => ?_)
  rotate_left
  · have e : lenL l = n := by rw [h3, List.drop_eq_nil_of_le (by omega)]; rfl
    exact ⟨(), by omega, e⟩
  have hi : i < l.length := by omega
  obtain ⟨c1, c2, c3, c4⟩ := fGet l i hi
  have hd := List.drop_eq_getElem_cons hi
  rw [hd, lenG] at h3
  have hs := g2 _ (List.getElem_mem hi)
  have w : IntKind.wrap .i64 ((i : Int) + 1) = ((i + 1 : Nat) : Int) := i64_succ (by omega)
  generalize l[i] = f at *
  have q1 : (⟨#[99, 111, 110, 116, 101, 110, 116, 45, 108, 101, 110, 103, 116, 104]⟩ : ByteArray) = bs sCLen := rfl
  have d1 : dgI (bs f.v) 1 9 = dgV (digL f.v 1 9) := rfl
  have d2 : dgB (bs f.v) 1 9 = (digL f.v 1 9).isSome := rfl
  simp only [c1, c2, c3, c4, w, q1, strEq_bs, L_bse, d1, d2]
  refine ⟨trivial, trivial, br_intro (fun k => ?_) (fun k => ⟨⟨by omega, by omega, by omega, by omega⟩, br_intro (fun k2 => ?_) (fun k2 => ?_)⟩)⟩
  · have k : ¬ f.n = sCLen := by simpa using k
    rw [if_neg k] at h3
    exact ⟨⟨n, i + 1⟩, ⟨by simp only; omega, h2, h3⟩, by simp only; omega, rfl, rfl⟩
  · have k : f.n = sCLen := by simpa using k
    rw [if_pos k] at h3
    have k2 : digL f.v 1 9 = none := by simpa using k2
    rw [k2] at h3
    exact ⟨(), h3⟩
  · have k : f.n = sCLen := by simpa using k
    rw [if_pos k] at h3
    obtain ⟨m, hm2⟩ : ∃ m, digL f.v 1 9 = some m := by
      cases hd : digL f.v 1 9 with
      | none => rw [hd] at k2; simp at k2
      | some m => exact ⟨m, rfl⟩
    have hb := digL_bd (by omega) hm2
    rw [hm2] at h3 ⊢
    simp only at h3
    have e : dgV (some m) = (m : Nat) := rfl
    rw [e]
    have go : lenL l = lenG (m : Nat) (l.drop (i + 1)) → ∃ j : StI, (j.i ≤ l.length ∧ (-1 ≤ j.n ∧ j.n < 1000000000) ∧ lenL l = lenG j.n (l.drop j.i)) ∧ l.length - j.i < l.length - i ∧ j.n = (m : Nat) ∧ (j.i : Int) = ((i + 1 : Nat) : Int) := fun h => ⟨⟨m, i + 1⟩, ⟨by simp only; omega, by simp only; omega, h⟩, by simp only; omega, rfl, rfl⟩
    refine br_intro (fun k3 => br_intro (fun k4 => ?_) (fun k4 => go ?_)) (fun k3 => go ?_)
    · rw [if_pos ⟨by simpa using k3, by simpa using k4⟩] at h3; exact ⟨(), h3⟩
    · rw [if_neg (fun hh => hh.2 (by simpa using k4))] at h3; exact h3
    · rw [if_neg (fun hh => hh.1 (by simpa using k3))] at h3; exact h3
theorem Le_con (l : List Fl) (h : l.length ≤ maxLen) (hs : ShortF l) : Con Tryd.prog 10 [.slice (some ⟨0, 0, none⟩) l.length 2] [gRo enF l] (.int .i64 (lenL l)) [gRo enF l] := by
  refine con_vc (E := EtLen) mixed (calls_envT tLen_ok) (lok_envT _ _) (M := mLe) (lm_one Le_piece) (Le_vc l _) ?_
  have hm : maxLen = 9223372036854775807 := by unfold maxLen; rfl
  simp only [ofNat_eq, toNat_cast, Nat.zero_add, Nat.add_zero, Nat.mul_one, List.drop_zero, bCells_len, bCells_drop, bCells_take, bCells_app, bCells_one, bCells_plain, List.length_replicate, List.length_append, List.length_take, List.length_drop, List.take_length, and_true, true_and, and_self, decide_true, List.length_nil, List.length_cons, Nat.sub_zero, dB_mk, dB_ro, List.take_zero, fPl, bs_dd]
  exact ⟨l, ⟨by omega, hs⟩, rfl, rfl, rfl, br_side (fun y hy => ⟨rfl, rfl⟩) (fun y hy => ⟨hy, rfl⟩)⟩
theorem ePl_ok : EntOk Tryd.prog ePl := entC_ok (by
  intro a rows p v news h hp
  split at h <;> simp only [Option.some.injEq, Prod.mk.injEq, reduceCtorEq] at h
  obtain ⟨rfl, rfl, rfl⟩ := h
  obtain ⟨⟨l, rfl, rfl⟩, h1, h2⟩ := hp
  simp only [plR, ShR, dF, List.append_nil] at h2 ⊢
  exact Pl_con l h1 h2)
theorem eLen_ok : EntOk Tryd.prog eLen := entC_ok (by
  intro a rows p v news h hp
  split at h <;> simp only [Option.some.injEq, Prod.mk.injEq, reduceCtorEq] at h
  obtain ⟨rfl, rfl, rfl⟩ := h
  obtain ⟨⟨l, rfl, rfl⟩, h1, h2⟩ := hp
  simp only [lenR, ShR, dF, List.append_nil] at h2 ⊢
  exact Le_con l h1 h2)
end Go.Proofs.YteodlmfnkjdhhaaDoor.tk
