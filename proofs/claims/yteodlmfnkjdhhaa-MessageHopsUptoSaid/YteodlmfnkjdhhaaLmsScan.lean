/- Single fields and lists of fields of a message: what is read of them. -/
import Derived.Test.YteodlmfnkjdhhaaSz9
import Derived.Test.YteodlmfnkjdhhaaRows
import Derived.Test.YteodlmfnkjdhhaaLmsVal
import Derived.Test.YteodlmfnkjdhhaaLtkToken
import Derived.Test.YteodlmfnkjdhhaaLtkLower
set_option linter.unusedSimpArgs false
set_option linter.unusedVariables false
namespace Go.Proofs.Yteodlmfnkjdhhaa.tk
open Go Go.Ev Go.Sy Go.RowKit Go.Proofs.Yteodlmfnkjdhhaa.gl
def dgI (s : ByteArray) (lo hi : Int) : Int := dgV (digL (L s) lo.toNat hi.toNat)
def dgB (s : ByteArray) (lo hi : Int) : Bool := (digL (L s) lo.toNat hi.toNat).isSome
def psR (r : Row) : Int := (psN (decF r.cells) : Nat)
def nmR (r : Row) (s : ByteArray) : Bool := nmIn (L s) (decF r.cells)
def cpS (m s a p : ByteArray) : Bool := cpB ⟨L m, L s, L a, L p⟩
noncomputable def eTok : EntM := entC 51 fun a r => match a, r with
  | [.string s], [] => some ((L s).length ≤ maxLen, .bool (tokS s), [])
  | _, _ => none
noncomputable def eLow : EntM := entC 45 fun a r => match a, r with
  | [.string s], [] => some ((L s).length ≤ maxLen, .string (lowS s), [])
  | _, _ => none
noncomputable def eOc : EntM := entC 46 fun a r => match a, r with
  | [.string s], [] => some (True, .bool (ocS s), [])
  | _, _ => none
noncomputable def eDig : EntM := entC 36 fun a r => match a, r with
  | [.string s, .int .i64 lo, .int .i64 hi], [] => some ((L s).length ≤ maxLen ∧ 0 ≤ lo ∧ 0 ≤ hi ∧ hi ≤ 9, .tuple #[.int .i64 (dgI s lo hi), .bool (dgB s lo hi)], [])
  | _, _ => none
noncomputable def ePs : EntM := entC 28 fun a r => match a, r with
  | [.slice (some ⟨0, 0, none⟩) n 2], [r0] => some (IsF r0 n ∧ n ≤ maxLen, .int .i64 (psR r0), [])
  | _, _ => none
noncomputable def eNm : EntM := entC 30 fun a r => match a, r with
  | [.slice (some ⟨0, 0, none⟩) n 2, .string s], [r0] => some (IsF r0 n ∧ n ≤ maxLen, .bool (nmR r0 s), [])
  | _, _ => none
noncomputable def ePl : EntM := entC 33 fun a r => match a, r with
  | [.slice (some ⟨0, 0, none⟩) n 2], [r0] => some (IsF r0 n ∧ n ≤ maxLen ∧ ShR r0, .bool (plR r0), [])
  | _, _ => none
noncomputable def eLen : EntM := entC 32 fun a r => match a, r with
  | [.slice (some ⟨0, 0, none⟩) n 2], [r0] => some (IsF r0 n ∧ n ≤ maxLen ∧ ShR r0, .int .i64 (lenR r0), [])
  | _, _ => none
noncomputable def eCp : EntM := entC 34 fun a r => match a, r with
  | [.agg ⟨[.string m, .string s, .string a, .string p, .slice (some ⟨0, 0, none⟩) n 2, .int .i64 k]⟩], [r0] => some (IsF r0 n ∧ (L m).length ≤ maxLen ∧ (L p).length ≤ maxLen, .bool (cpS m s a p), [])
  | _, _ => none
noncomputable def tPl : List EntM := [eTok, eLow, eVal, eOc]
noncomputable abbrev EtPl : Env := envT Try.prog tPl
noncomputable def tLen : List EntM := [eDig]
noncomputable abbrev EtLen : Env := envT Try.prog tLen
noncomputable def tCp : List EntM := [eTok]
noncomputable abbrev EtCp : Env := envT Try.prog tCp
def pDig : List Nat := [0, 1, 0, 1, 1, 1]
structure StN where
  n : Nat
  i : Nat
def slDig (l : List UInt8) (s : StN) : List (Nat × Value) := [(0, .string (bs l)), (8, .int .i64 (s.n : Nat)), (21, .int .i64 (l.length : Nat)), (22, .int .i64 (s.i : Nat))]
def wsDig (l : List UInt8) : List (Gate Nat) := [⟨.exit 0, fun n => digF l 0 = some n, fun n => [(8, .int .i64 (n : Nat))], fun _ => [], 0⟩, ⟨.ret, fun _ => digF l 0 = none, fun _ => [(6, .int .i64 0), (7, .bool false)], fun _ => [], 0⟩]
def specDig : Sy.Spec := specOf 0 0 45 (fun l : List UInt8 => l.length ≤ 9) (fun l => slDig l ⟨0, 0⟩) (fun _ => []) wsDig
def mDig := mOf [(36, pDig, specDig)]
def pPs : List Nat := [0, 1, 0, 1]
def slPs (l : List Fl) (i : Nat) : List (Nat × Value) := [(0, .slice (some ⟨0, 0, none⟩) l.length 2), (5, .slice (some ⟨0, 0, none⟩) l.length 2), (6, .int .i64 (l.length : Nat)), (7, .int .i64 (i : Nat))]
def rl1 (l : List Fl) : List (Nat × Row) := [(0, gRo enF l)]
def wsPs (l : List Fl) : List (Gate Nat) := [⟨.exit 0, fun _ => psN l = l.length, fun _ => [(0, .slice (some ⟨0, 0, none⟩) l.length 2)], fun _ => rl1 l, 1⟩, ⟨.ret, fun i => psN l = i, fun i => [(2, .int .i64 (i : Nat))], fun _ => rl1 l, 1⟩]
def specPs : Sy.Spec := specOf 1 1 20 (fun l : List Fl => l.length ≤ maxLen) (fun l => slPs l 0) rl1 wsPs
def mPs := mOf [(28, pPs, specPs)]
structure GNm where
  l : List Fl
  nm : List UInt8
def slNm (g : GNm) (i : Nat) : List (Nat × Value) := [(1, .string (bs g.nm)), (7, .slice (some ⟨0, 0, none⟩) g.l.length 2), (8, .int .i64 (g.l.length : Nat)), (9, .int .i64 (i : Nat))]
def wsNm (g : GNm) : List (Gate Unit) := [⟨.exit 0, fun _ => nmIn g.nm g.l = false, fun _ => [], fun _ => rl1 g.l, 1⟩, ⟨.ret, fun _ => nmIn g.nm g.l = true, fun _ => [(4, .bool true)], fun _ => rl1 g.l, 1⟩]
def specNm : Sy.Spec := specOf 1 1 18 (fun g : GNm => g.l.length ≤ maxLen) (fun g => slNm g 0) (fun g => rl1 g.l) wsNm
def mNm := mOf [(30, pPs, specNm)]
def slPl (l : List Fl) (i : Nat) : List (Nat × Value) := [(5, .slice (some ⟨0, 0, none⟩) l.length 2), (6, .int .i64 (l.length : Nat)), (7, .int .i64 (i : Nat))]
def wsPl (l : List Fl) : List (Gate Unit) := [⟨.exit 0, fun _ => plL l = true, fun _ => [], fun _ => rl1 l, 1⟩, ⟨.ret, fun _ => plL l = false, fun _ => [(2, .bool false)], fun _ => rl1 l, 1⟩]
def specPl : Sy.Spec := specOf 1 1 43 (fun l : List Fl => l.length ≤ maxLen ∧ ShortF l) (fun l => slPl l 0) rl1 wsPl
def mPl := mOf [(33, pPs, specPl)]
def pLe : List Nat := [0, 1, 0, 1, 1]
structure StI where
  n : Int
  i : Nat
def slLe (l : List Fl) (s : StI) : List (Nat × Value) := [(3, .int .i64 s.n), (8, .slice (some ⟨0, 0, none⟩) l.length 2), (9, .int .i64 (l.length : Nat)), (10, .int .i64 (s.i : Nat))]
def wsLe (l : List Fl) : List (Gate Unit) := [⟨.exit 0, fun _ => lenL l ≠ -2, fun _ => [(3, .int .i64 (lenL l))], fun _ => rl1 l, 1⟩, ⟨.ret, fun _ => lenL l = -2, fun _ => [(2, .int .i64 (-2))], fun _ => rl1 l, 1⟩]
def specLe : Sy.Spec := specOf 1 1 37 (fun l : List Fl => l.length ≤ maxLen ∧ ShortF l) (fun l => slLe l ⟨-1, 0⟩) rl1 wsLe
def mLe := mOf [(32, pLe, specLe)]
theorem Oc_vc (s : List UInt8) (b : Bool) : mcall E0 noM 60 46 [.string (bs s)] ⟨mkR (nums 0 []), 0⟩ (retIs 0 (.bool b) []) =
  (br (strEq (bs s) (ByteArray.mk #[(99 : UInt8), (111 : UInt8), (110 : UInt8), (110 : UInt8), (101 : UInt8), (99 : UInt8), (116 : UInt8), (105 : UInt8), (111 : UInt8), (110 : UInt8)]))
   ((b = true) ∧
   True)
   (br (strEq (bs s) (ByteArray.mk #[(112 : UInt8), (114 : UInt8), (111 : UInt8), (120 : UInt8), (121 : UInt8), (45 : UInt8), (99 : UInt8), (111 : UInt8), (110 : UInt8), (110 : UInt8), (101 : UInt8), (99 : UInt8), (116 : UInt8), (105 : UInt8), (111 : UInt8), (110 : UInt8)]))
    ((b = true) ∧
    True)
    (br (strEq (bs s) (ByteArray.mk #[(107 : UInt8), (101 : UInt8), (101 : UInt8), (112 : UInt8), (45 : UInt8), (97 : UInt8), (108 : UInt8), (105 : UInt8), (118 : UInt8), (101 : UInt8)]))
     ((b = true) ∧
     True)
     (br (strEq (bs s) (ByteArray.mk #[(116 : UInt8), (114 : UInt8), (97 : UInt8), (110 : UInt8), (115 : UInt8), (102 : UInt8), (101 : UInt8), (114 : UInt8), (45 : UInt8), (101 : UInt8), (110 : UInt8), (99 : UInt8), (111 : UInt8), (100 : UInt8), (105 : UInt8), (110 : UInt8), (103 : UInt8)]))
      ((b = true) ∧
      True)
      (br (strEq (bs s) (ByteArray.mk #[(117 : UInt8), (112 : UInt8), (103 : UInt8), (114 : UInt8), (97 : UInt8), (100 : UInt8), (101 : UInt8)]))
       ((b = true) ∧
       True)
       ((b = false) ∧
       True)))))) := by kernel_rfl
theorem Dig_round (l : List UInt8) (s : StN) (Inv : StN → Prop) (m : StN → Nat) : mev E0 noM 60 36 (0 :: pDig) false (codeOf Try.prog 36 (0 :: pDig)) ⟨mkOv (slDig l s), 45, []⟩ none ⟨mkR [], 0⟩ (roundK 0 0 45 Inv m (slDig l) (fun _ => []) (wsDig l) s) =
  (br (decide ((↑s.2 : Int) < (↑(List.length l) : Int)))
   (br (decide ((0 : Int) ≤ (↑s.2 : Int) ∧ (↑s.2 : Int) < (↑(List.length (Array.toList (ByteArray.data (bs l)))) : Int)))
    (br (decide (byteAt (bs l) (Int.toNat (↑s.2 : Int)) < (48 : Int)))
     (∃ y : Nat, ((Eq (α := Option Nat) (digF l (0 : Nat)) (none)) ∧
     (((0 : Int) = (0 : Int)) ∧
     ((false = false) ∧
     True))))
     (br (decide ((0 : Int) ≤ (↑s.2 : Int) ∧ (↑s.2 : Int) < (↑(List.length (Array.toList (ByteArray.data (bs l)))) : Int)))
      (br (decide (byteAt (bs l) (Int.toNat (↑s.2 : Int)) > (57 : Int)))
       (∃ y : Nat, ((Eq (α := Option Nat) (digF l (0 : Nat)) (none)) ∧
       (((0 : Int) = (0 : Int)) ∧
       ((false = false) ∧
       True))))
       (br (decide ((0 : Int) ≤ (↑s.2 : Int) ∧ (↑s.2 : Int) < (↑(List.length (Array.toList (ByteArray.data (bs l)))) : Int)))
        (∃ j : StN, ((Inv j) ∧
        ((m j < m s) ∧
        ((bs l = bs l) ∧
        (((↑j.1 : Int) = IntKind.wrap IntKind.i64 (IntKind.wrap IntKind.i64 ((↑s.1 : Int) * (10 : Int)) + IntKind.wrap IntKind.i64 (IntKind.wrap IntKind.u8 (byteAt (bs l) (Int.toNat (↑s.2 : Int)) - (48 : Int))))) ∧
        (((↑(List.length l) : Int) = (↑(List.length l) : Int)) ∧
        (((↑j.2 : Int) = IntKind.wrap IntKind.i64 ((↑s.2 : Int) + (1 : Int))) ∧
        True)))))))
        False))
      False))
    False)
   (∃ y : Nat, ((Eq (α := Option Nat) (digF l (0 : Nat)) (some y)) ∧
   (((↑y : Int) = (↑s.1 : Int)) ∧
   True)))) := by kernel_rfl
theorem Dig_vc (l : List UInt8) (lo hi v : Int) (b : Bool) : mcall E0 mDig 60 36 [.string (bs l), .int .i64 lo, .int .i64 hi] ⟨mkR (nums 0 []), 0⟩ (retIs 0 (.tuple #[.int .i64 v, .bool b]) []) =
  (br (decide (Int.ofNat (List.length (Array.toList (ByteArray.data (bs l)))) < lo))
   ((v = (0 : Int)) ∧
   ((b = false) ∧
   True))
   (br (decide (Int.ofNat (List.length (Array.toList (ByteArray.data (bs l)))) > hi))
    ((v = (0 : Int)) ∧
    ((b = false) ∧
    True))
    (∃ g : List UInt8, ((List.length g ≤ (9 : Nat)) ∧
    ((bs g = bs l) ∧
    (((0 : Int) = (0 : Int)) ∧
    (((↑(List.length g) : Int) = Int.ofNat (List.length (Array.toList (ByteArray.data (bs l))))) ∧
    (((0 : Int) = (0 : Int)) ∧
    (∀ (side : Bool), (br (side)
     (∀ (y : Nat), ((digF g (0 : Nat) = some y) →
     ((v = (↑y : Int)) ∧
     ((b = true) ∧
     True))))
     (∀ (y : Nat), ((digF g (0 : Nat) = none) →
     ((v = (0 : Int)) ∧
     ((b = false) ∧
     True)))))))))))))) := by kernel_rfl
theorem Ps_round (l : List Fl) (s : Nat) (Inv : Nat → Prop) (m : Nat → Nat) : mev E0 noM 60 28 (0 :: pPs) false (codeOf Try.prog 28 (0 :: pPs)) ⟨mkOv (slPs l s), 20, []⟩ none ⟨mkR (rl1 l), 1⟩ (roundK 1 1 20 Inv m (slPs l) (fun _ => rl1 l) (wsPs l) s) =
  (br (decide ((↑s : Int) < (↑(List.length l) : Int)))
   (br (decide ((0 : Int) ≤ (↑s : Int) ∧ (↑s : Int) < (↑(List.length l) : Int)))
    ((Eq (α := Option Value) ((gC enF l)[(0 : Nat) + Int.toNat (↑s : Int) * (2 : Nat)]?) (some (Value.string (cellS (gC enF l) ((0 : Nat) + Int.toNat (↑s : Int) * (2 : Nat)))))) ∧
    ((Eq (α := Option Value) ((gC enF l)[(0 : Nat) + Int.toNat (↑s : Int) * (2 : Nat) + (1 : Nat)]?) (some (Value.string (cellS (gC enF l) ((0 : Nat) + Int.toNat (↑s : Int) * (2 : Nat) + (1 : Nat)))))) ∧
    (br (!strEq (cellS (gC enF l) ((0 : Nat) + Int.toNat (↑s : Int) * (2 : Nat))) (ByteArray.mk #[]))
     (br (decide ((0 : Int) ≤ (0 : Int) ∧ (0 : Int) < (↑(List.length (Array.toList (ByteArray.data (cellS (gC enF l) ((0 : Nat) + Int.toNat (↑s : Int) * (2 : Nat)))))) : Int)))
      (br (!byteAt (cellS (gC enF l) ((0 : Nat) + Int.toNat (↑s : Int) * (2 : Nat))) (0 : Nat) == (58 : Int))
       (∃ y : Nat, ((psN l = y) ∧
       (((↑y : Int) = (↑s : Int)) ∧
       ((Eq (α := List Value) (gC enF l) (gC enF l)) ∧
       ((Plain (gC enF l)) ∧
       True)))))
       (∃ j : Nat, ((Inv j) ∧
       ((m j < m s) ∧
       (((0 : Nat) = (0 : Nat)) ∧
       ((List.length l = List.length l) ∧
       (((0 : Nat) = (0 : Nat)) ∧
       ((List.length l = List.length l) ∧
       (((↑(List.length l) : Int) = (↑(List.length l) : Int)) ∧
       (((↑j : Int) = IntKind.wrap IntKind.i64 ((↑s : Int) + (1 : Int))) ∧
       ((Eq (α := List Value) (gC enF l) (gC enF l)) ∧
       ((Plain (gC enF l)) ∧
       True))))))))))))
      False)
     (∃ y : Nat, ((psN l = y) ∧
     (((↑y : Int) = (↑s : Int)) ∧
     ((Eq (α := List Value) (gC enF l) (gC enF l)) ∧
     ((Plain (gC enF l)) ∧
     True))))))))
    False)
   (∃ y : Nat, ((psN l = List.length l) ∧
   (((0 : Nat) = (0 : Nat)) ∧
   ((List.length l = List.length l) ∧
   ((Eq (α := List Value) (gC enF l) (gC enF l)) ∧
   ((Plain (gC enF l)) ∧
   True))))))) := by kernel_rfl
theorem Ps_vc (l : List Fl) (v : Int) : mcall E0 mPs 60 28 [.slice (some ⟨0, 0, none⟩) l.length 2] ⟨mkR (nums 0 [gRo enF l]), 1⟩ (retIs 1 (.int .i64 v) [gRo enF l]) =
  (∃ g : List Fl, ((List.length g ≤ (9223372036854775807 : Nat)) ∧
  (((0 : Nat) = (0 : Nat)) ∧
  ((List.length g = List.length l) ∧
  (((0 : Nat) = (0 : Nat)) ∧
  ((List.length g = List.length l) ∧
  (((↑(List.length g) : Int) = Int.ofNat (List.length l)) ∧
  (((0 : Int) = (0 : Int)) ∧
  ((Eq (α := List Value) (gC enF g) (gC enF l)) ∧
  ((Plain (gC enF g)) ∧
  (∀ (side : Bool), (br (side)
   (∀ (y : Nat), ((psN g = List.length g) →
   ((v = Int.ofNat (List.length g)) ∧
   ((Eq (α := List Value) (gC enF l) (gC enF g)) ∧
   ((Plain (gC enF l)) ∧
   True)))))
   (∀ (y : Nat), ((psN g = y) →
   ((v = (↑y : Int)) ∧
   ((Eq (α := List Value) (gC enF l) (gC enF g)) ∧
   ((Plain (gC enF l)) ∧
   True))))))))))))))))) := by kernel_rfl
theorem Nm_round (g : GNm) (s : Nat) (Inv : Nat → Prop) (m : Nat → Nat) : mev E0 noM 60 30 (0 :: pPs) false (codeOf Try.prog 30 (0 :: pPs)) ⟨mkOv (slNm g s), 18, []⟩ none ⟨mkR (rl1 g.l), 1⟩ (roundK 1 1 18 Inv m (slNm g) (fun _ => rl1 g.l) (wsNm g) s) =
  (br (decide ((↑s : Int) < (↑(List.length g.1) : Int)))
   (br (decide ((0 : Int) ≤ (↑s : Int) ∧ (↑s : Int) < (↑(List.length g.1) : Int)))
    ((Eq (α := Option Value) ((gC enF g.1)[(0 : Nat) + Int.toNat (↑s : Int) * (2 : Nat)]?) (some (Value.string (cellS (gC enF g.1) ((0 : Nat) + Int.toNat (↑s : Int) * (2 : Nat)))))) ∧
    ((Eq (α := Option Value) ((gC enF g.1)[(0 : Nat) + Int.toNat (↑s : Int) * (2 : Nat) + (1 : Nat)]?) (some (Value.string (cellS (gC enF g.1) ((0 : Nat) + Int.toNat (↑s : Int) * (2 : Nat) + (1 : Nat)))))) ∧
    (br (strEq (cellS (gC enF g.1) ((0 : Nat) + Int.toNat (↑s : Int) * (2 : Nat))) (bs g.2))
     (∃ y : Unit, ((nmIn g.2 g.1 = true) ∧
     ((true = true) ∧
     ((Eq (α := List Value) (gC enF g.1) (gC enF g.1)) ∧
     ((Plain (gC enF g.1)) ∧
     True)))))
     (∃ j : Nat, ((Inv j) ∧
     ((m j < m s) ∧
     ((bs g.2 = bs g.2) ∧
     (((0 : Nat) = (0 : Nat)) ∧
     ((List.length g.1 = List.length g.1) ∧
     (((↑(List.length g.1) : Int) = (↑(List.length g.1) : Int)) ∧
     (((↑j : Int) = IntKind.wrap IntKind.i64 ((↑s : Int) + (1 : Int))) ∧
     ((Eq (α := List Value) (gC enF g.1) (gC enF g.1)) ∧
     ((Plain (gC enF g.1)) ∧
     True)))))))))))))
    False)
   (∃ y : Unit, ((nmIn g.2 g.1 = false) ∧
   ((Eq (α := List Value) (gC enF g.1) (gC enF g.1)) ∧
   ((Plain (gC enF g.1)) ∧
   True))))) := by kernel_rfl
theorem Nm_vc (l : List Fl) (nm : List UInt8) (v : Bool) : mcall E0 mNm 60 30 [.slice (some ⟨0, 0, none⟩) l.length 2, .string (bs nm)] ⟨mkR (nums 0 [gRo enF l]), 1⟩ (retIs 1 (.bool v) [gRo enF l]) =
  (∃ g : GNm, ((List.length g.1 ≤ (9223372036854775807 : Nat)) ∧
  ((bs g.2 = bs nm) ∧
  (((0 : Nat) = (0 : Nat)) ∧
  ((List.length g.1 = List.length l) ∧
  (((↑(List.length g.1) : Int) = Int.ofNat (List.length l)) ∧
  (((0 : Int) = (0 : Int)) ∧
  ((Eq (α := List Value) (gC enF g.1) (gC enF l)) ∧
  ((Plain (gC enF g.1)) ∧
  (∀ (side : Bool), (br (side)
   (∀ (y : Unit), ((nmIn g.2 g.1 = false) →
   ((v = false) ∧
   ((Eq (α := List Value) (gC enF l) (gC enF g.1)) ∧
   ((Plain (gC enF l)) ∧
   True)))))
   (∀ (y : Unit), ((nmIn g.2 g.1 = true) →
   ((v = true) ∧
   ((Eq (α := List Value) (gC enF l) (gC enF g.1)) ∧
   ((Plain (gC enF l)) ∧
   True)))))))))))))))) := by kernel_rfl
theorem Pl_round (l : List Fl) (s : Nat) (Inv : Nat → Prop) (m : Nat → Nat) : mev EtPl noM 60 33 (0 :: pPs) false (codeOf Try.prog 33 (0 :: pPs)) ⟨mkOv (slPl l s), 43, []⟩ none ⟨mkR (rl1 l), 1⟩ (roundK 1 1 43 Inv m (slPl l) (fun _ => rl1 l) (wsPl l) s) =
  (br (decide ((↑s : Int) < (↑(List.length l) : Int)))
   (br (decide ((0 : Int) ≤ (↑s : Int) ∧ (↑s : Int) < (↑(List.length l) : Int)))
    ((Eq (α := Option Value) ((gC enF l)[(0 : Nat) + Int.toNat (↑s : Int) * (2 : Nat)]?) (some (Value.string (cellS (gC enF l) ((0 : Nat) + Int.toNat (↑s : Int) * (2 : Nat)))))) ∧
    ((Eq (α := Option Value) ((gC enF l)[(0 : Nat) + Int.toNat (↑s : Int) * (2 : Nat) + (1 : Nat)]?) (some (Value.string (cellS (gC enF l) ((0 : Nat) + Int.toNat (↑s : Int) * (2 : Nat) + (1 : Nat)))))) ∧
    ((((True ∧ True) ∧ (True ∧ (True ∧ List.length (L (cellS (gC enF l) ((0 : Nat) + Int.toNat (↑s : Int) * (2 : Nat)))) ≤ (9223372036854775807 : Nat))))) ∧
    (br (!tokS (cellS (gC enF l) ((0 : Nat) + Int.toNat (↑s : Int) * (2 : Nat))))
     ((Value.string (cellS (gC enF l) ((0 : Nat) + Int.toNat (↑s : Int) * (2 : Nat))) = Value.string (cellS (gC enF l) ((0 : Nat) + Int.toNat (↑s : Int) * (2 : Nat)))) ∧
     (∃ y : Unit, ((plL l = false) ∧
     ((false = false) ∧
     ((Eq (α := List Value) (gC enF l) (gC enF l)) ∧
     ((Plain (gC enF l)) ∧
     True))))))
     ((((True ∧ True) ∧ (True ∧ (True ∧ List.length (L (cellS (gC enF l) ((0 : Nat) + Int.toNat (↑s : Int) * (2 : Nat)))) ≤ (9223372036854775807 : Nat))))) ∧
     (br (!strEq (lowS (cellS (gC enF l) ((0 : Nat) + Int.toNat (↑s : Int) * (2 : Nat)))) (cellS (gC enF l) ((0 : Nat) + Int.toNat (↑s : Int) * (2 : Nat))))
      ((Value.string (cellS (gC enF l) ((0 : Nat) + Int.toNat (↑s : Int) * (2 : Nat))) = Value.string (cellS (gC enF l) ((0 : Nat) + Int.toNat (↑s : Int) * (2 : Nat)))) ∧
      ((Value.string (cellS (gC enF l) ((0 : Nat) + Int.toNat (↑s : Int) * (2 : Nat))) = Value.string (cellS (gC enF l) ((0 : Nat) + Int.toNat (↑s : Int) * (2 : Nat)))) ∧
      ((Value.string (cellS (gC enF l) ((0 : Nat) + Int.toNat (↑s : Int) * (2 : Nat))) = Value.string (cellS (gC enF l) ((0 : Nat) + Int.toNat (↑s : Int) * (2 : Nat)))) ∧
      ((Value.string (cellS (gC enF l) ((0 : Nat) + Int.toNat (↑s : Int) * (2 : Nat))) = Value.string (cellS (gC enF l) ((0 : Nat) + Int.toNat (↑s : Int) * (2 : Nat)))) ∧
      (∃ y : Unit, ((plL l = false) ∧
      ((false = false) ∧
      ((Eq (α := List Value) (gC enF l) (gC enF l)) ∧
      ((Plain (gC enF l)) ∧
      True)))))))))
      ((((True ∧ True) ∧ (True ∧ (True ∧ List.length (L (cellS (gC enF l) ((0 : Nat) + Int.toNat (↑s : Int) * (2 : Nat) + (1 : Nat)))) ≤ (9223372036854775807 : Nat))))) ∧
      ((Value.string (cellS (gC enF l) ((0 : Nat) + Int.toNat (↑s : Int) * (2 : Nat))) = Value.string (cellS (gC enF l) ((0 : Nat) + Int.toNat (↑s : Int) * (2 : Nat)))) ∧
      ((Value.string (cellS (gC enF l) ((0 : Nat) + Int.toNat (↑s : Int) * (2 : Nat))) = Value.string (cellS (gC enF l) ((0 : Nat) + Int.toNat (↑s : Int) * (2 : Nat)))) ∧
      ((Value.string (cellS (gC enF l) ((0 : Nat) + Int.toNat (↑s : Int) * (2 : Nat))) = Value.string (cellS (gC enF l) ((0 : Nat) + Int.toNat (↑s : Int) * (2 : Nat)))) ∧
      ((Value.string (cellS (gC enF l) ((0 : Nat) + Int.toNat (↑s : Int) * (2 : Nat))) = Value.string (cellS (gC enF l) ((0 : Nat) + Int.toNat (↑s : Int) * (2 : Nat)))) ∧
      ((Value.string (cellS (gC enF l) ((0 : Nat) + Int.toNat (↑s : Int) * (2 : Nat) + (1 : Nat))) = Value.string (cellS (gC enF l) ((0 : Nat) + Int.toNat (↑s : Int) * (2 : Nat) + (1 : Nat)))) ∧
      (br (!valS (cellS (gC enF l) ((0 : Nat) + Int.toNat (↑s : Int) * (2 : Nat) + (1 : Nat))))
       (∃ y : Unit, ((plL l = false) ∧
       ((false = false) ∧
       ((Eq (α := List Value) (gC enF l) (gC enF l)) ∧
       ((Plain (gC enF l)) ∧
       True)))))
       ((((True ∧ True) ∧ (True ∧ (True ∧ True)))) ∧
       (br (ocS (cellS (gC enF l) ((0 : Nat) + Int.toNat (↑s : Int) * (2 : Nat))))
        (∃ y : Unit, ((plL l = false) ∧
        ((false = false) ∧
        ((Eq (α := List Value) (gC enF l) (gC enF l)) ∧
        ((Plain (gC enF l)) ∧
        True)))))
        (br (strEq (cellS (gC enF l) ((0 : Nat) + Int.toNat (↑s : Int) * (2 : Nat))) (ByteArray.mk #[(116 : UInt8), (101 : UInt8)]))
         (br (!strEq (cellS (gC enF l) ((0 : Nat) + Int.toNat (↑s : Int) * (2 : Nat) + (1 : Nat))) (ByteArray.mk #[(116 : UInt8), (114 : UInt8), (97 : UInt8), (105 : UInt8), (108 : UInt8), (101 : UInt8), (114 : UInt8), (115 : UInt8)]))
          (∃ y : Unit, ((plL l = false) ∧
          ((false = false) ∧
          ((Eq (α := List Value) (gC enF l) (gC enF l)) ∧
          ((Plain (gC enF l)) ∧
          True)))))
          (∃ j : Nat, ((Inv j) ∧
          ((m j < m s) ∧
          (((0 : Nat) = (0 : Nat)) ∧
          ((List.length l = List.length l) ∧
          (((↑(List.length l) : Int) = (↑(List.length l) : Int)) ∧
          (((↑j : Int) = IntKind.wrap IntKind.i64 ((↑s : Int) + (1 : Int))) ∧
          ((Eq (α := List Value) (gC enF l) (gC enF l)) ∧
          ((Plain (gC enF l)) ∧
          True))))))))))
         (∃ j : Nat, ((Inv j) ∧
         ((m j < m s) ∧
         (((0 : Nat) = (0 : Nat)) ∧
         ((List.length l = List.length l) ∧
         (((↑(List.length l) : Int) = (↑(List.length l) : Int)) ∧
         (((↑j : Int) = IntKind.wrap IntKind.i64 ((↑s : Int) + (1 : Int))) ∧
         ((Eq (α := List Value) (gC enF l) (gC enF l)) ∧
         ((Plain (gC enF l)) ∧
         True)))))))))))))))))))))))))
    False)
   (∃ y : Unit, ((plL l = true) ∧
   ((Eq (α := List Value) (gC enF l) (gC enF l)) ∧
   ((Plain (gC enF l)) ∧
   True))))) := by kernel_rfl
theorem Pl_vc (l : List Fl) (v : Bool) : mcall EtPl mPl 60 33 [.slice (some ⟨0, 0, none⟩) l.length 2] ⟨mkR (nums 0 [gRo enF l]), 1⟩ (retIs 1 (.bool v) [gRo enF l]) =
  (∃ g : List Fl, ((List.length g ≤ (9223372036854775807 : Nat) ∧ ShortF g) ∧
  (((0 : Nat) = (0 : Nat)) ∧
  ((List.length g = List.length l) ∧
  (((↑(List.length g) : Int) = Int.ofNat (List.length l)) ∧
  (((0 : Int) = (0 : Int)) ∧
  ((Eq (α := List Value) (gC enF g) (gC enF l)) ∧
  ((Plain (gC enF g)) ∧
  (∀ (side : Bool), (br (side)
   (∀ (y : Unit), ((plL g = true) →
   ((v = true) ∧
   ((Eq (α := List Value) (gC enF l) (gC enF g)) ∧
   ((Plain (gC enF l)) ∧
   True)))))
   (∀ (y : Unit), ((plL g = false) →
   ((v = false) ∧
   ((Eq (α := List Value) (gC enF l) (gC enF g)) ∧
   ((Plain (gC enF l)) ∧
   True))))))))))))))) := by kernel_rfl
theorem Le_round (l : List Fl) (s : StI) (Inv : StI → Prop) (m : StI → Nat) : mev EtLen noM 60 32 (0 :: pLe) false (codeOf Try.prog 32 (0 :: pLe)) ⟨mkOv (slLe l s), 37, []⟩ none ⟨mkR (rl1 l), 1⟩ (roundK 1 1 37 Inv m (slLe l) (fun _ => rl1 l) (wsLe l) s) =
  (br (decide ((↑s.2 : Int) < (↑(List.length l) : Int)))
   (br (decide ((0 : Int) ≤ (↑s.2 : Int) ∧ (↑s.2 : Int) < (↑(List.length l) : Int)))
    ((Eq (α := Option Value) ((gC enF l)[(0 : Nat) + Int.toNat (↑s.2 : Int) * (2 : Nat)]?) (some (Value.string (cellS (gC enF l) ((0 : Nat) + Int.toNat (↑s.2 : Int) * (2 : Nat)))))) ∧
    ((Eq (α := Option Value) ((gC enF l)[(0 : Nat) + Int.toNat (↑s.2 : Int) * (2 : Nat) + (1 : Nat)]?) (some (Value.string (cellS (gC enF l) ((0 : Nat) + Int.toNat (↑s.2 : Int) * (2 : Nat) + (1 : Nat)))))) ∧
    (br (!strEq (cellS (gC enF l) ((0 : Nat) + Int.toNat (↑s.2 : Int) * (2 : Nat))) (ByteArray.mk #[(99 : UInt8), (111 : UInt8), (110 : UInt8), (116 : UInt8), (101 : UInt8), (110 : UInt8), (116 : UInt8), (45 : UInt8), (108 : UInt8), (101 : UInt8), (110 : UInt8), (103 : UInt8), (116 : UInt8), (104 : UInt8)]))
     (∃ j : StI, ((Inv j) ∧
     ((m j < m s) ∧
     ((j.1 = s.1) ∧
     (((0 : Nat) = (0 : Nat)) ∧
     ((List.length l = List.length l) ∧
     (((↑(List.length l) : Int) = (↑(List.length l) : Int)) ∧
     (((↑j.2 : Int) = IntKind.wrap IntKind.i64 ((↑s.2 : Int) + (1 : Int))) ∧
     ((Eq (α := List Value) (gC enF l) (gC enF l)) ∧
     ((Plain (gC enF l)) ∧
     True))))))))))
     ((((True ∧ (True ∧ (True ∧ True))) ∧ (True ∧ (True ∧ (List.length (L (cellS (gC enF l) ((0 : Nat) + Int.toNat (↑s.2 : Int) * (2 : Nat) + (1 : Nat)))) ≤ (9223372036854775807 : Nat) ∧ ((0 : Int) ≤ (1 : Int) ∧ ((0 : Int) ≤ (9 : Int) ∧ (9 : Int) ≤ (9 : Int)))))))) ∧
     (br (!dgB (cellS (gC enF l) ((0 : Nat) + Int.toNat (↑s.2 : Int) * (2 : Nat) + (1 : Nat))) (1 : Int) (9 : Int))
      (∃ y : Unit, ((lenL l = (-2 : Int)) ∧
      (((-2 : Int) = (-2 : Int)) ∧
      ((Eq (α := List Value) (gC enF l) (gC enF l)) ∧
      ((Plain (gC enF l)) ∧
      True)))))
      (br (s.1 != (-1 : Int))
       (br (dgI (cellS (gC enF l) ((0 : Nat) + Int.toNat (↑s.2 : Int) * (2 : Nat) + (1 : Nat))) (1 : Int) (9 : Int) != s.1)
        (∃ y : Unit, ((lenL l = (-2 : Int)) ∧
        (((-2 : Int) = (-2 : Int)) ∧
        ((Eq (α := List Value) (gC enF l) (gC enF l)) ∧
        ((Plain (gC enF l)) ∧
        True)))))
        (∃ j : StI, ((Inv j) ∧
        ((m j < m s) ∧
        ((j.1 = dgI (cellS (gC enF l) ((0 : Nat) + Int.toNat (↑s.2 : Int) * (2 : Nat) + (1 : Nat))) (1 : Int) (9 : Int)) ∧
        (((0 : Nat) = (0 : Nat)) ∧
        ((List.length l = List.length l) ∧
        (((↑(List.length l) : Int) = (↑(List.length l) : Int)) ∧
        (((↑j.2 : Int) = IntKind.wrap IntKind.i64 ((↑s.2 : Int) + (1 : Int))) ∧
        ((Eq (α := List Value) (gC enF l) (gC enF l)) ∧
        ((Plain (gC enF l)) ∧
        True)))))))))))
       (∃ j : StI, ((Inv j) ∧
       ((m j < m s) ∧
       ((j.1 = dgI (cellS (gC enF l) ((0 : Nat) + Int.toNat (↑s.2 : Int) * (2 : Nat) + (1 : Nat))) (1 : Int) (9 : Int)) ∧
       (((0 : Nat) = (0 : Nat)) ∧
       ((List.length l = List.length l) ∧
       (((↑(List.length l) : Int) = (↑(List.length l) : Int)) ∧
       (((↑j.2 : Int) = IntKind.wrap IntKind.i64 ((↑s.2 : Int) + (1 : Int))) ∧
       ((Eq (α := List Value) (gC enF l) (gC enF l)) ∧
       ((Plain (gC enF l)) ∧
       True))))))))))))))))
    False)
   (∃ y : Unit, ((lenL l ≠ (-2 : Int)) ∧
   ((lenL l = s.1) ∧
   ((Eq (α := List Value) (gC enF l) (gC enF l)) ∧
   ((Plain (gC enF l)) ∧
   True)))))) := by kernel_rfl
theorem Le_vc (l : List Fl) (v : Int) : mcall EtLen mLe 60 32 [.slice (some ⟨0, 0, none⟩) l.length 2] ⟨mkR (nums 0 [gRo enF l]), 1⟩ (retIs 1 (.int .i64 v) [gRo enF l]) =
  (∃ g : List Fl, ((List.length g ≤ (9223372036854775807 : Nat) ∧ ShortF g) ∧
  (((-1 : Int) = (-1 : Int)) ∧
  (((0 : Nat) = (0 : Nat)) ∧
  ((List.length g = List.length l) ∧
  (((↑(List.length g) : Int) = Int.ofNat (List.length l)) ∧
  (((0 : Int) = (0 : Int)) ∧
  ((Eq (α := List Value) (gC enF g) (gC enF l)) ∧
  ((Plain (gC enF g)) ∧
  (∀ (side : Bool), (br (side)
   (∀ (y : Unit), ((lenL g ≠ (-2 : Int)) →
   ((v = lenL g) ∧
   ((Eq (α := List Value) (gC enF l) (gC enF g)) ∧
   ((Plain (gC enF l)) ∧
   True)))))
   (∀ (y : Unit), ((lenL g = (-2 : Int)) →
   ((v = (-2 : Int)) ∧
   ((Eq (α := List Value) (gC enF l) (gC enF g)) ∧
   ((Plain (gC enF l)) ∧
   True)))))))))))))))) := by kernel_rfl
theorem Cp_vc (m s a p : List UInt8) (l : List Fl) (k : Int) (v : Bool) : mcall EtCp noM 60 34 [.agg ⟨[.string (bs m), .string (bs s), .string (bs a), .string (bs p), .slice (some ⟨0, 0, none⟩) l.length 2, .int .i64 k]⟩] ⟨mkR (nums 0 [gRo enF l]), 1⟩ (retIs 1 (.bool v) [gRo enF l]) =
  ((((True ∧ True) ∧ (True ∧ (True ∧ List.length (L (bs m)) ≤ (9223372036854775807 : Nat))))) ∧
  (br (!tokS (bs m))
   ((v = false) ∧
   ((Eq (α := List Value) (gC enF l) (gC enF l)) ∧
   ((Plain (gC enF l)) ∧
   True)))
   (br (strEq (bs m) (ByteArray.mk #[(67 : UInt8), (79 : UInt8), (78 : UInt8), (78 : UInt8), (69 : UInt8), (67 : UInt8), (84 : UInt8)]))
    ((v = false) ∧
    ((Eq (α := List Value) (gC enF l) (gC enF l)) ∧
    ((Plain (gC enF l)) ∧
    True)))
    (br (strEq (bs a) (ByteArray.mk #[]))
     ((v = false) ∧
     ((Eq (α := List Value) (gC enF l) (gC enF l)) ∧
     ((Plain (gC enF l)) ∧
     True)))
     (br (!strEq (bs s) (ByteArray.mk #[(104 : UInt8), (116 : UInt8), (116 : UInt8), (112 : UInt8)]))
      (br (!strEq (bs s) (ByteArray.mk #[(104 : UInt8), (116 : UInt8), (116 : UInt8), (112 : UInt8), (115 : UInt8)]))
       ((v = false) ∧
       ((Eq (α := List Value) (gC enF l) (gC enF l)) ∧
       ((Plain (gC enF l)) ∧
       True)))
       (br (strEq (bs m) (ByteArray.mk #[(79 : UInt8), (80 : UInt8), (84 : UInt8), (73 : UInt8), (79 : UInt8), (78 : UInt8), (83 : UInt8)]))
        (br (strEq (bs p) (ByteArray.mk #[(42 : UInt8)]))
         ((v = true) ∧
         ((Eq (α := List Value) (gC enF l) (gC enF l)) ∧
         ((Plain (gC enF l)) ∧
         True)))
         (br (!strEq (bs p) (ByteArray.mk #[]))
          (br (decide ((0 : Int) ≤ (0 : Int) ∧ (0 : Int) < (↑(List.length (Array.toList (ByteArray.data (bs p)))) : Int)))
           ((v = (byteAt (bs p) (0 : Nat) == (47 : Int))) ∧
           ((Eq (α := List Value) (gC enF l) (gC enF l)) ∧
           ((Plain (gC enF l)) ∧
           True)))
           False)
          ((v = false) ∧
          ((Eq (α := List Value) (gC enF l) (gC enF l)) ∧
          ((Plain (gC enF l)) ∧
          True)))))
        (br (!strEq (bs p) (ByteArray.mk #[]))
         (br (decide ((0 : Int) ≤ (0 : Int) ∧ (0 : Int) < (↑(List.length (Array.toList (ByteArray.data (bs p)))) : Int)))
          ((v = (byteAt (bs p) (0 : Nat) == (47 : Int))) ∧
          ((Eq (α := List Value) (gC enF l) (gC enF l)) ∧
          ((Plain (gC enF l)) ∧
          True)))
          False)
         ((v = false) ∧
         ((Eq (α := List Value) (gC enF l) (gC enF l)) ∧
         ((Plain (gC enF l)) ∧
         True))))))
      (br (strEq (bs m) (ByteArray.mk #[(79 : UInt8), (80 : UInt8), (84 : UInt8), (73 : UInt8), (79 : UInt8), (78 : UInt8), (83 : UInt8)]))
       (br (strEq (bs p) (ByteArray.mk #[(42 : UInt8)]))
        ((v = true) ∧
        ((Eq (α := List Value) (gC enF l) (gC enF l)) ∧
        ((Plain (gC enF l)) ∧
        True)))
        (br (!strEq (bs p) (ByteArray.mk #[]))
         (br (decide ((0 : Int) ≤ (0 : Int) ∧ (0 : Int) < (↑(List.length (Array.toList (ByteArray.data (bs p)))) : Int)))
          ((v = (byteAt (bs p) (0 : Nat) == (47 : Int))) ∧
          ((Eq (α := List Value) (gC enF l) (gC enF l)) ∧
          ((Plain (gC enF l)) ∧
          True)))
          False)
         ((v = false) ∧
         ((Eq (α := List Value) (gC enF l) (gC enF l)) ∧
         ((Plain (gC enF l)) ∧
         True)))))
       (br (!strEq (bs p) (ByteArray.mk #[]))
        (br (decide ((0 : Int) ≤ (0 : Int) ∧ (0 : Int) < (↑(List.length (Array.toList (ByteArray.data (bs p)))) : Int)))
         ((v = (byteAt (bs p) (0 : Nat) == (47 : Int))) ∧
         ((Eq (α := List Value) (gC enF l) (gC enF l)) ∧
         ((Plain (gC enF l)) ∧
         True)))
         False)
        ((v = false) ∧
        ((Eq (α := List Value) (gC enF l) (gC enF l)) ∧
        ((Plain (gC enF l)) ∧
        True)))))))))) := by kernel_rfl
theorem eTok_ok : EntOk Try.prog eTok := entC_ok (by
  intro a rows p v news h hp
  split at h <;> simp only [Option.some.injEq, Prod.mk.injEq, reduceCtorEq] at h
  obtain ⟨rfl, rfl, rfl⟩ := h
  exact Tok_con (L _) hp)
theorem eLow_ok : EntOk Try.prog eLow := entC_ok (by
  intro a rows p v news h hp
  split at h <;> simp only [Option.some.injEq, Prod.mk.injEq, reduceCtorEq] at h
  obtain ⟨rfl, rfl, rfl⟩ := h
  exact Low_con (L _) hp)
theorem Oc_con (s : ByteArray) : Con Try.prog 46 [.string s] [] (.bool (ocS s)) [] := by
  obtain ⟨s, rfl⟩ : ∃ l, s = bs l := ⟨L s, rfl⟩
  refine con_vc (E := E0) mixed (calls_envN _) (lok_envN _) (M := noM) lm_none (Oc_vc s _) ?_
  simp only [ofNat_eq, toNat_cast, Nat.zero_add, Nat.add_zero, Nat.mul_one, List.drop_zero, bCells_len, bCells_drop, bCells_take, bCells_app, bCells_one, bCells_plain, List.length_replicate, List.length_append, List.length_take, List.length_drop, List.take_length, and_true, true_and, and_self, decide_true, List.length_nil, List.length_cons, Nat.sub_zero, dB_mk, dB_ro, List.take_zero]
  unfold ocS ocL
  have q1 : (⟨#[99, 111, 110, 110, 101, 99, 116, 105, 111, 110]⟩ : ByteArray) = bs sConn := rfl
  have q2 : (⟨#[112, 114, 111, 120, 121, 45, 99, 111, 110, 110, 101, 99, 116, 105, 111, 110]⟩ : ByteArray) = bs sPConn := rfl
  have q3 : (⟨#[107, 101, 101, 112, 45, 97, 108, 105, 118, 101]⟩ : ByteArray) = bs sKeep := rfl
  have q4 : (⟨#[116, 114, 97, 110, 115, 102, 101, 114, 45, 101, 110, 99, 111, 100, 105, 110, 103]⟩ : ByteArray) = bs sTrEn := rfl
  have q5 : (⟨#[117, 112, 103, 114, 97, 100, 101]⟩ : ByteArray) = bs sUpg := rfl
  simp only [q1, q2, q3, q4, q5, strEq_bs, L_bse]
  repeat' refine br_intro (fun _ => ?_) (fun _ => ?_)
  all_goals simp_all
theorem Dig_piece : PieceOk E0 0 (36, pDig, specDig) := by
  refine piece_loop mixed (calls_envN _) (lok_envN _) lm_none (n := 60) (by kernel_rfl) (fun _ : List UInt8 => (⟨0, 0⟩ : StN)) (fun l s => s.i ≤ l.length ∧ s.n < 10 ^ s.i ∧ digF l 0 = digF (l.drop s.i) s.n) (fun l s => l.length - s.i) (sl := slDig) (rl := fun _ _ => []) (fun l hg => ⟨Nat.zero_le _, by simp, rfl⟩) (fun l s hg hi => ?_)
  refine (Dig_round l s _ _).mpr ?_
  obtain ⟨n, i⟩ := s
  obtain ⟨h1, h2, h3⟩ := hi
  simp only at h1 h2 h3
  simp only [ofNat_eq, toNat_cast, Nat.zero_add, Nat.add_zero, Nat.mul_one, List.drop_zero, bCells_len, bCells_drop, bCells_take, bCells_app, bCells_one, bCells_plain, List.length_replicate, List.length_append, List.length_take, List.length_drop, List.take_length, and_true, true_and, and_self, decide_true, List.length_nil, List.length_cons, Nat.sub_zero, dB_mk, dB_ro, List.take_zero, bs_dd]
  have hg' : l.length ≤ 9 := hg
  refine br_if (fun h => br_dec (by omega) ?_) (fun h => ⟨n, by rw [h3, List.drop_eq_nil_of_le (by omega)]; rfl, rfl⟩)
  have hi : i < l.length := by omega
  have hd := List.drop_eq_getElem_cons hi
  rw [hd, digF] at h3
  rw [byteAt_bs hi]
  generalize l[i] = c at *
  have hb := u8_lt c
  have w : IntKind.wrap .i64 ((i : Int) + 1) = ((i + 1 : Nat) : Int) := i64_succ (by omega)
  have dig : isDg c = decide (48 ≤ c.toNat ∧ c.toNat ≤ 57) := rfl
  refine br_if (fun k => ⟨0, by rw [h3, if_neg (by rw [dig, decide_eq_false (by omega)]; simp)]⟩) (fun k1 => br_dec (by omega) (br_if (fun k => ⟨0, by rw [h3, if_neg (by rw [dig, decide_eq_false (by omega)]; simp)]⟩) (fun k2 => br_dec (by omega) ?_)))
  rw [if_pos (by rw [dig, decide_eq_true (by omega)])] at h3
  have hp : 10 ^ i ≤ 10 ^ 8 := Nat.pow_le_pow_right (by omega) (by omega)
  refine ⟨⟨n * 10 + (c.toNat - 48), i + 1⟩, ⟨by simp only; omega, ?_, h3⟩, by simp only; omega, ?_, by rw [w]⟩
  · simp only; rw [Nat.pow_succ]; omega
  · rw [wru8, wr64_id (n := (n : Int) * 10) (by unfold I64; omega), wr64_id (n := (((c.toNat : Nat) : Int) - 48) % 256) (by unfold I64; omega), wr64_id (by unfold I64; omega)]; simp only; omega
theorem Dig_con (l : List UInt8) (lo hi : Int) (hl : l.length ≤ maxLen) (h1 : 0 ≤ lo) (h2 : 0 ≤ hi) (h3 : hi ≤ 9) : Con Try.prog 36 [.string (bs l), .int .i64 lo, .int .i64 hi] [] (.tuple #[.int .i64 (dgV (digL l lo.toNat hi.toNat)), .bool (digL l lo.toNat hi.toNat).isSome]) [] := by
  refine con_vc (E := E0) mixed (calls_envN _) (lok_envN _) (M := mDig) (lm_one Dig_piece) (Dig_vc l lo hi _ _) ?_
  simp only [ofNat_eq, toNat_cast, Nat.zero_add, Nat.add_zero, Nat.mul_one, List.drop_zero, bCells_len, bCells_drop, bCells_take, bCells_app, bCells_one, bCells_plain, List.length_replicate, List.length_append, List.length_take, List.length_drop, List.take_length, and_true, true_and, and_self, decide_true, List.length_nil, List.length_cons, Nat.sub_zero, dB_mk, dB_ro, List.take_zero, bs_dd]
  unfold digL
  refine br_if (fun k => ?_) (fun k => br_if (fun k2 => ?_) (fun k2 => ⟨l, by omega, rfl, rfl, br_side (fun y hy => ?_) (fun y hy => ?_)⟩))
  · rw [if_neg (by omega)]; exact ⟨rfl, rfl⟩
  · rw [if_neg (by omega)]; exact ⟨rfl, rfl⟩
  · rw [if_pos ⟨by omega, by omega⟩, hy]; exact ⟨rfl, rfl⟩
  · rw [if_pos ⟨by omega, by omega⟩, hy]; exact ⟨rfl, rfl⟩
theorem Ps_piece : PieceOk E0 1 (28, pPs, specPs) := by
  refine piece_loop mixed (calls_envN _) (lok_envN _) lm_none (n := 60) (by kernel_rfl) (fun _ : List Fl => (0 : Nat)) (fun l i => i ≤ l.length ∧ psN l = i + psN (l.drop i)) (fun l i => l.length - i) (sl := slPs) (rl := fun l _ => rl1 l) (fun l hg => ⟨Nat.zero_le _, by simp⟩) (fun l i hg hi => ?_)
  refine (Ps_round l i _ _).mpr ?_
  obtain ⟨h1, h2⟩ := hi
  have hm : maxLen = 9223372036854775807 := by unfold maxLen; rfl
  have hg' : l.length ≤ maxLen := hg
  simp only [ofNat_eq, toNat_cast, Nat.zero_add, Nat.add_zero, Nat.mul_one, List.drop_zero, bCells_len, bCells_drop, bCells_take, bCells_app, bCells_one, bCells_plain, List.length_replicate, List.length_append, List.length_take, List.length_drop, List.take_length, and_true, true_and, and_self, decide_true, List.length_nil, List.length_cons, Nat.sub_zero, dB_mk, dB_ro, List.take_zero, fPl, bs_dd]
  refine br_if (fun h => br_dec (by omega) ?_) (fun h => ⟨0, by rw [h2, List.drop_eq_nil_of_le (by omega)]; simp [psN]; omega⟩)
  have hi : i < l.length := by omega
  obtain ⟨c1, c2, c3, c4⟩ := fGet l i hi
  have hd := List.drop_eq_getElem_cons hi
  have hp : psN (l.drop i) = if colB l[i].n then 1 + psN (l.drop (i + 1)) else 0 := by
    unfold psN; rw [hd, List.takeWhile_cons]
    by_cases h : colB l[i].n = true
    · rw [if_pos h, if_pos h, List.length_cons]; omega
    · rw [if_neg h, if_neg h]; rfl
  have w : IntKind.wrap .i64 ((i : Int) + 1) = ((i + 1 : Nat) : Int) := i64_succ (by omega)
  generalize l[i] = f at *
  simp only [c1, c2, c3, c4, w]
  have stop : colB f.n = false → ∃ y : Nat, psN l = y ∧ (y : Int) = i := fun h => ⟨i, by rw [h2, hp, if_neg (by simp [h])]; rfl, rfl⟩
  have go : colB f.n = true → ∃ j, (j ≤ l.length ∧ psN l = j + psN (l.drop j)) ∧ l.length - j < l.length - i ∧ (j : Int) = ((i + 1 : Nat) : Int) := fun h => ⟨i + 1, ⟨by omega, by rw [h2, hp, if_pos h]; omega⟩, by omega, rfl⟩
  refine ⟨trivial, trivial, ?_⟩
  rw [show (⟨#[]⟩ : ByteArray) = bs [] from rfl, strEq_bs]
  cases hn : f.n with
  | nil => exact br_nb (by simp) (stop (by rw [hn]; rfl))
  | cons c r =>
    refine br_b (by simp) (br_dec (by show (0 : Int) ≤ 0 ∧ (0 : Int) < ((c :: r).length : Nat); exact ⟨Int.le_refl _, by rw [List.length_cons]; omega⟩) ?_)
    rw [byteAt_bs (l := c :: r) (i := 0) (by simp)]
    simp only [List.getElem_cons_zero]
    refine br_intro (fun k => stop ?_) (fun k => go ?_)
    · rw [hn]; simp at k; show (c == 58) = false
      rw [beq_eq_false_iff_ne]; rintro rfl; exact k rfl
    · rw [hn]; simp at k; show (c == 58) = true
      rw [beq_iff_eq]; exact (u8_nat (n := 58) (by omega)).1 k
theorem Nm_piece : PieceOk E0 1 (30, pPs, specNm) := by
  refine piece_loop mixed (calls_envN _) (lok_envN _) lm_none (n := 60) (by kernel_rfl) (fun _ : GNm => (0 : Nat)) (fun g i => i ≤ g.l.length ∧ nmIn g.nm (g.l.take i) = false) (fun g i => g.l.length - i) (sl := slNm) (rl := fun g _ => rl1 g.l) (fun l hg => ⟨Nat.zero_le _, rfl⟩) (fun g i hg hi => ?_)
  refine (Nm_round g i _ _).mpr ?_
  obtain ⟨l, nm⟩ := g
  obtain ⟨h1, h2⟩ := hi
  have hm : maxLen = 9223372036854775807 := by unfold maxLen; rfl
  have hg' : l.length ≤ maxLen := hg
  simp only at h1 h2
  simp only [ofNat_eq, toNat_cast, Nat.zero_add, Nat.add_zero, Nat.mul_one, List.drop_zero, bCells_len, bCells_drop, bCells_take, bCells_app, bCells_one, bCells_plain, List.length_replicate, List.length_append, List.length_take, List.length_drop, List.take_length, and_true, true_and, and_self, decide_true, List.length_nil, List.length_cons, Nat.sub_zero, dB_mk, dB_ro, List.take_zero, fPl, bs_dd]
  refine br_if (fun h => br_dec (by omega) ?_) (fun h => ⟨(), by rw [List.take_of_length_le (by omega)] at h2; exact h2⟩)
  have hi : i < l.length := by omega
  obtain ⟨c1, c2, c3, c4⟩ := fGet l i hi
  have ht : l.take (i + 1) = l.take i ++ [l[i]] := List.take_succ_eq_append_getElem hi
  have hin := List.getElem_mem hi
  have w : IntKind.wrap .i64 ((i : Int) + 1) = ((i + 1 : Nat) : Int) := i64_succ (by omega)
  generalize l[i] = f at *
  simp only [c1, c2, c3, c4, w, strEq_bs]
  exact ⟨trivial, trivial, br_if (fun k => ⟨(), by unfold nmIn; exact List.any_eq_true.2 ⟨f, hin, by simp [k]⟩⟩) (fun k => ⟨i + 1, ⟨by omega, by rw [ht]; unfold nmIn at h2 ⊢; rw [List.any_append, h2]; simp [k]⟩, by omega, rfl⟩)⟩
theorem Ps_con (l : List Fl) (h : l.length ≤ maxLen) : Con Try.prog 28 [.slice (some ⟨0, 0, none⟩) l.length 2] [gRo enF l] (.int .i64 (psN l : Nat)) [gRo enF l] := by
  refine con_vc (E := E0) mixed (calls_envN _) (lok_envN _) (M := mPs) (lm_one Ps_piece) (Ps_vc l _) ?_
  have hm : maxLen = 9223372036854775807 := by unfold maxLen; rfl
  simp only [ofNat_eq, toNat_cast, Nat.zero_add, Nat.add_zero, Nat.mul_one, List.drop_zero, bCells_len, bCells_drop, bCells_take, bCells_app, bCells_one, bCells_plain, List.length_replicate, List.length_append, List.length_take, List.length_drop, List.take_length, and_true, true_and, and_self, decide_true, List.length_nil, List.length_cons, Nat.sub_zero, dB_mk, dB_ro, List.take_zero, fPl, bs_dd]
  exact ⟨l, by omega, rfl, rfl, rfl, rfl, br_side (fun y hy => ⟨by omega, rfl⟩) (fun y hy => ⟨by omega, rfl⟩)⟩
theorem Nm_con (l : List Fl) (nm : List UInt8) (h : l.length ≤ maxLen) : Con Try.prog 30 [.slice (some ⟨0, 0, none⟩) l.length 2, .string (bs nm)] [gRo enF l] (.bool (nmIn nm l)) [gRo enF l] := by
  refine con_vc (E := E0) mixed (calls_envN _) (lok_envN _) (M := mNm) (lm_one Nm_piece) (Nm_vc l nm _) ?_
  have hm : maxLen = 9223372036854775807 := by unfold maxLen; rfl
  simp only [ofNat_eq, toNat_cast, Nat.zero_add, Nat.add_zero, Nat.mul_one, List.drop_zero, bCells_len, bCells_drop, bCells_take, bCells_app, bCells_one, bCells_plain, List.length_replicate, List.length_append, List.length_take, List.length_drop, List.take_length, and_true, true_and, and_self, decide_true, List.length_nil, List.length_cons, Nat.sub_zero, dB_mk, dB_ro, List.take_zero, fPl, bs_dd]
  exact ⟨⟨l, nm⟩, by simp only; omega, rfl, rfl, rfl, rfl, br_side (fun y hy => ⟨hy, rfl⟩) (fun y hy => ⟨hy, rfl⟩)⟩
theorem eOc_ok : EntOk Try.prog eOc := entC_ok (by
  intro a rows p v news h hp
  split at h <;> simp only [Option.some.injEq, Prod.mk.injEq, reduceCtorEq] at h
  obtain ⟨rfl, rfl, rfl⟩ := h
  exact Oc_con _)
theorem eDig_ok : EntOk Try.prog eDig := entC_ok (by
  intro a rows p v news h hp
  split at h <;> simp only [Option.some.injEq, Prod.mk.injEq, reduceCtorEq] at h
  obtain ⟨rfl, rfl, rfl⟩ := h
  exact Dig_con (L _) _ _ hp.1 hp.2.1 hp.2.2.1 hp.2.2.2)
theorem ePs_ok : EntOk Try.prog ePs := entC_ok (by
  intro a rows p v news h hp
  split at h <;> simp only [Option.some.injEq, Prod.mk.injEq, reduceCtorEq] at h
  obtain ⟨rfl, rfl, rfl⟩ := h
  obtain ⟨⟨l, rfl, rfl⟩, h1⟩ := hp
  simp only [psR, dF, List.append_nil]
  exact Ps_con l h1)
theorem eNm_ok : EntOk Try.prog eNm := entC_ok (by
  intro a rows p v news h hp
  split at h <;> simp only [Option.some.injEq, Prod.mk.injEq, reduceCtorEq] at h
  obtain ⟨rfl, rfl, rfl⟩ := h
  obtain ⟨⟨l, rfl, rfl⟩, h1⟩ := hp
  simp only [nmR, dF, List.append_nil]
  exact Nm_con l (L _) h1)
theorem tPl_ok : ∀ x ∈ tPl, EntOk Try.prog x := all_cons eTok_ok (all_cons eLow_ok (all_cons eVal_ok (all_cons eOc_ok (all_nil))))
theorem tLen_ok : ∀ x ∈ tLen, EntOk Try.prog x := all_cons eDig_ok (all_nil)
theorem tCp_ok : ∀ x ∈ tCp, EntOk Try.prog x := all_cons eTok_ok (all_nil)
theorem plL_at {l : List Fl} {i : Nat} (hi : i < l.length) : plL (l.take (i + 1)) = (plL (l.take i) && plF l[i]) := by
  unfold plL
  rw [List.take_succ_eq_append_getElem hi, List.all_append]; simp
theorem plL_no {l : List Fl} {i : Nat} (hi : i < l.length) (h : plF l[i] = false) : plL l = false := by
  unfold plL
  rw [List.all_eq_false]
  exact ⟨l[i], List.getElem_mem hi, by simp [h]⟩
theorem Pl_piece : PieceOk EtPl 1 (33, pPs, specPl) := by
  refine piece_loop mixed (calls_envT tPl_ok) (lok_envT _ _) lm_none (n := 60) (by kernel_rfl) (fun _ : List Fl => (0 : Nat)) (fun l i => i ≤ l.length ∧ plL (l.take i) = true) (fun l i => l.length - i) (sl := slPl) (rl := fun l _ => rl1 l) (fun l hg => ⟨Nat.zero_le _, rfl⟩) (fun l i hg hi => ?_)
  refine (Pl_round l i _ _).mpr ?_
  obtain ⟨h1, h2⟩ := hi
  obtain ⟨g1, g2⟩ := hg
  have hm : maxLen = 9223372036854775807 := by unfold maxLen; rfl
  simp only [ofNat_eq, toNat_cast, Nat.zero_add, Nat.add_zero, Nat.mul_one, List.drop_zero, bCells_len, bCells_drop, bCells_take, bCells_app, bCells_one, bCells_plain, List.length_replicate, List.length_append, List.length_take, List.length_drop, List.take_length, and_true, true_and, and_self, decide_true, List.length_nil, List.length_cons, Nat.sub_zero, dB_mk, dB_ro, List.take_zero, fPl, bs_dd]
  refine br_if (fun h => br_dec (by omega) ?_) (fun h => ⟨(), by rw [List.take_of_length_le (by omega)] at h2; exact h2⟩)
  have hi : i < l.length := by omega
  obtain ⟨c1, c2, c3, c4⟩ := fGet l i hi
  have ha := plL_at hi
  have hn := plL_no hi
  have hs := g2 _ (List.getElem_mem hi)
  have w : IntKind.wrap .i64 ((i : Int) + 1) = ((i + 1 : Nat) : Int) := i64_succ (by omega)
  generalize l[i] = f at *
  have q1 : (⟨#[116, 101]⟩ : ByteArray) = bs sTe := rfl
  have q2 : (⟨#[116, 114, 97, 105, 108, 101, 114, 115]⟩ : ByteArray) = bs sTrail := rfl
  simp only [c1, c2, c3, c4, w, q1, q2, tokS_bs, lowS_bs, strEq_bs, valS, ocS, L_bse]
  have no : plF f = false → ∃ y : Unit, plL l = false := fun h => ⟨(), hn h⟩
  have go : plF f = true → ∃ j, (j ≤ l.length ∧ plL (l.take j) = true) ∧ l.length - j < l.length - i ∧ (j : Int) = ((i + 1 : Nat) : Int) := fun h => ⟨i + 1, ⟨by omega, by rw [ha, h2, h]; rfl⟩, by omega, rfl⟩
  have key : plF f = (tokL f.n && (decide (lowerL f.n = f.n) && (valL f.v && (!ocL f.n && !(decide (f.n = sTe) && !decide (f.v = sTrail)))))) := rfl
  refine ⟨trivial, trivial, by omega, br_intro (fun k => no ?_) (fun k1 => ⟨by omega, br_intro (fun k => no ?_) (fun k2 => ⟨by omega, br_intro (fun k => no ?_) (fun k3 => br_intro (fun k => no ?_) (fun k4 => br_intro (fun k5 => br_intro (fun k => no ?_) (fun k6 => go ?_)) (fun k5 => go ?_)))⟩)⟩)⟩
  all_goals (rw [key]; simp_all)
theorem Pl_con (l : List Fl) (h : l.length ≤ maxLen) (hs : ShortF l) : Con Try.prog 33 [.slice (some ⟨0, 0, none⟩) l.length 2] [gRo enF l] (.bool (plL l)) [gRo enF l] := by
  refine con_vc (E := EtPl) mixed (calls_envT tPl_ok) (lok_envT _ _) (M := mPl) (lm_one Pl_piece) (Pl_vc l _) ?_
  have hm : maxLen = 9223372036854775807 := by unfold maxLen; rfl
  simp only [ofNat_eq, toNat_cast, Nat.zero_add, Nat.add_zero, Nat.mul_one, List.drop_zero, bCells_len, bCells_drop, bCells_take, bCells_app, bCells_one, bCells_plain, List.length_replicate, List.length_append, List.length_take, List.length_drop, List.take_length, and_true, true_and, and_self, decide_true, List.length_nil, List.length_cons, Nat.sub_zero, dB_mk, dB_ro, List.take_zero, fPl, bs_dd]
  exact ⟨l, ⟨by omega, hs⟩, rfl, rfl, rfl, br_side (fun y hy => ⟨hy, rfl⟩) (fun y hy => ⟨hy, rfl⟩)⟩
theorem Le_piece : PieceOk EtLen 1 (32, pLe, specLe) := by
  refine piece_loop mixed (calls_envT tLen_ok) (lok_envT _ _) lm_none (n := 60) (by kernel_rfl) (fun _ : List Fl => (⟨-1, 0⟩ : StI)) (fun l s => s.i ≤ l.length ∧ (-1 ≤ s.n ∧ s.n < 1000000000) ∧ lenL l = lenG s.n (l.drop s.i)) (fun l s => l.length - s.i) (sl := slLe) (rl := fun l _ => rl1 l) (fun l hg => ⟨Nat.zero_le _, by simp, rfl⟩) (fun l s hg hi => ?_)
  refine (Le_round l s _ _).mpr ?_
  obtain ⟨n, i⟩ := s
  obtain ⟨h1, h2, h3⟩ := hi
  obtain ⟨g1, g2⟩ := hg
  have hm : maxLen = 9223372036854775807 := by unfold maxLen; rfl
  simp only at h1 h2 h3
  simp only [ofNat_eq, toNat_cast, Nat.zero_add, Nat.add_zero, Nat.mul_one, List.drop_zero, bCells_len, bCells_drop, bCells_take, bCells_app, bCells_one, bCells_plain, List.length_replicate, List.length_append, List.length_take, List.length_drop, List.take_length, and_true, true_and, and_self, decide_true, List.length_nil, List.length_cons, Nat.sub_zero, dB_mk, dB_ro, List.take_zero, fPl, bs_dd]
  refine br_if (fun h => br_dec (by omega) ?_) (fun h => ?_)
  rotate_left
  · have e : lenL l = n := by rw [h3, List.drop_eq_nil_of_le (by omega)]; rfl
    exact ⟨(), by omega, e⟩
  have hi : i < l.length := by omega
  obtain ⟨c1, c2, c3, c4⟩ := fGet l i hi
  have hd := List.drop_eq_getElem_cons hi
  rw [hd, lenG] at h3
  have hs := g2 _ (List.getElem_mem hi)
  have w : IntKind.wrap .i64 ((i : Int) + 1) = ((i + 1 : Nat) : Int) := i64_succ (by omega)
  generalize l[i] = f at *
  have q1 : (⟨#[99, 111, 110, 116, 101, 110, 116, 45, 108, 101, 110, 103, 116, 104]⟩ : ByteArray) = bs sCLen := rfl
  have d1 : dgI (bs f.v) 1 9 = dgV (digL f.v 1 9) := rfl
  have d2 : dgB (bs f.v) 1 9 = (digL f.v 1 9).isSome := rfl
  simp only [c1, c2, c3, c4, w, q1, strEq_bs, L_bse, d1, d2]
  refine ⟨trivial, trivial, br_intro (fun k => ?_) (fun k => ⟨⟨by omega, by omega, by omega, by omega⟩, br_intro (fun k2 => ?_) (fun k2 => ?_)⟩)⟩
  · have k : ¬ f.n = sCLen := by simpa using k
    rw [if_neg k] at h3
    exact ⟨⟨n, i + 1⟩, ⟨by simp only; omega, h2, h3⟩, by simp only; omega, rfl, rfl⟩
  · have k : f.n = sCLen := by simpa using k
    rw [if_pos k] at h3
    have k2 : digL f.v 1 9 = none := by simpa using k2
    rw [k2] at h3
    exact ⟨(), h3⟩
  · have k : f.n = sCLen := by simpa using k
    rw [if_pos k] at h3
    obtain ⟨m, hm2⟩ : ∃ m, digL f.v 1 9 = some m := by
      cases hd : digL f.v 1 9 with
      | none => rw [hd] at k2; simp at k2
      | some m => exact ⟨m, rfl⟩
    have hb := digL_bd (by omega) hm2
    rw [hm2] at h3 ⊢
    simp only at h3
    have e : dgV (some m) = (m : Nat) := rfl
    rw [e]
    have go : lenL l = lenG (m : Nat) (l.drop (i + 1)) → ∃ j : StI, (j.i ≤ l.length ∧ (-1 ≤ j.n ∧ j.n < 1000000000) ∧ lenL l = lenG j.n (l.drop j.i)) ∧ l.length - j.i < l.length - i ∧ j.n = (m : Nat) ∧ (j.i : Int) = ((i + 1 : Nat) : Int) := fun h => ⟨⟨m, i + 1⟩, ⟨by simp only; omega, by simp only; omega, h⟩, by simp only; omega, rfl, rfl⟩
    refine br_intro (fun k3 => br_intro (fun k4 => ?_) (fun k4 => go ?_)) (fun k3 => go ?_)
    · rw [if_pos ⟨by simpa using k3, by simpa using k4⟩] at h3; exact ⟨(), h3⟩
    · rw [if_neg (fun hh => hh.2 (by simpa using k4))] at h3; exact h3
    · rw [if_neg (fun hh => hh.1 (by simpa using k3))] at h3; exact h3
theorem Le_con (l : List Fl) (h : l.length ≤ maxLen) (hs : ShortF l) : Con Try.prog 32 [.slice (some ⟨0, 0, none⟩) l.length 2] [gRo enF l] (.int .i64 (lenL l)) [gRo enF l] := by
  refine con_vc (E := EtLen) mixed (calls_envT tLen_ok) (lok_envT _ _) (M := mLe) (lm_one Le_piece) (Le_vc l _) ?_
  have hm : maxLen = 9223372036854775807 := by unfold maxLen; rfl
  simp only [ofNat_eq, toNat_cast, Nat.zero_add, Nat.add_zero, Nat.mul_one, List.drop_zero, bCells_len, bCells_drop, bCells_take, bCells_app, bCells_one, bCells_plain, List.length_replicate, List.length_append, List.length_take, List.length_drop, List.take_length, and_true, true_and, and_self, decide_true, List.length_nil, List.length_cons, Nat.sub_zero, dB_mk, dB_ro, List.take_zero, fPl, bs_dd]
  exact ⟨l, ⟨by omega, hs⟩, rfl, rfl, rfl, br_side (fun y hy => ⟨rfl, rfl⟩) (fun y hy => ⟨hy, rfl⟩)⟩
theorem Cp_con (m s a p : List UInt8) (l : List Fl) (k : Int) (h1 : m.length ≤ maxLen) (h2 : p.length ≤ maxLen) : Con Try.prog 34 [.agg ⟨[.string (bs m), .string (bs s), .string (bs a), .string (bs p), .slice (some ⟨0, 0, none⟩) l.length 2, .int .i64 k]⟩] [gRo enF l] (.bool (cpB ⟨m, s, a, p⟩)) [gRo enF l] := by
  refine con_vc (E := EtCp) mixed (calls_envT tCp_ok) (lok_envT _ _) (M := noM) lm_none (Cp_vc m s a p l k _) ?_
  have hm : maxLen = 9223372036854775807 := by unfold maxLen; rfl
  have q1 : (⟨#[67, 79, 78, 78, 69, 67, 84]⟩ : ByteArray) = bs sCNCT := rfl
  have q2 : (⟨#[]⟩ : ByteArray) = bs [] := rfl
  have q3 : (⟨#[104, 116, 116, 112]⟩ : ByteArray) = bs sHttp := rfl
  have q4 : (⟨#[104, 116, 116, 112, 115]⟩ : ByteArray) = bs sHttps := rfl
  have q5 : (⟨#[79, 80, 84, 73, 79, 78, 83]⟩ : ByteArray) = bs sOPT := rfl
  have q6 : (⟨#[42]⟩ : ByteArray) = bs [42] := rfl
  simp only [ofNat_eq, toNat_cast, Nat.zero_add, Nat.add_zero, Nat.mul_one, List.drop_zero, bCells_len, bCells_drop, bCells_take, bCells_app, bCells_one, bCells_plain, List.length_replicate, List.length_append, List.length_take, List.length_drop, List.take_length, and_true, true_and, and_self, decide_true, List.length_nil, List.length_cons, Nat.sub_zero, dB_mk, dB_ro, List.take_zero, fPl, bs_dd, q1, q2, q3, q4, q5, q6, strEq_bs, tokS_bs, L_bse]
  have key : cpB ⟨m, s, a, p⟩ = (tokL m && (!decide (m = sCNCT) && (!decide (a = []) && ((decide (s = sHttp) || decide (s = sHttps)) && ((decide (m = sOPT) && decide (p = [42])) || slB p))))) := rfl
  have b0 : ∀ h : p ≠ [], (byteAt (bs p) 0 == 47) = slB p ∧ (0 : Int) ≤ 0 ∧ (0 : Int) < (p.length : Nat) := by
    intro h
    cases p with
    | nil => exact absurd rfl h
    | cons c r =>
      rw [byteAt_bs (l := c :: r) (i := 0) (by simp)]
      refine ⟨?_, Int.le_refl _, by rw [List.length_cons]; omega⟩
      simp only [List.getElem_cons_zero, slB]
      rw [Bool.eq_iff_iff, beq_iff_eq, beq_iff_eq]
      exact u8_nat (n := 47) (by omega)
  have ps : p = [] → slB p = false := fun h => by rw [h]; rfl
  refine ⟨by omega, br_intro (fun k => ?_) (fun k1 => br_intro (fun k => ?_) (fun k2 => br_intro (fun k => ?_) (fun k3 => br_intro (fun k4 => br_intro (fun k => ?_) (fun k5 => br_intro (fun k6 => br_intro (fun k7 => ?_) (fun k7 => br_intro (fun k8 => br_dec (b0 (by simpa using k8)).2 ?_) (fun k8 => ?_))) (fun k6 => br_intro (fun k8 => br_dec (b0 (by simpa using k8)).2 ?_) (fun k8 => ?_)))) (fun k4 => br_intro (fun k6 => br_intro (fun k7 => ?_) (fun k7 => br_intro (fun k8 => br_dec (b0 (by simpa using k8)).2 ?_) (fun k8 => ?_))) (fun k6 => br_intro (fun k8 => br_dec (b0 (by simpa using k8)).2 ?_) (fun k8 => ?_))))))⟩
  all_goals (rw [key])
  all_goals (try rw [(b0 (by simpa using k8)).1])
  all_goals simp_all
theorem ePl_ok : EntOk Try.prog ePl := entC_ok (by
  intro a rows p v news h hp
  split at h <;> simp only [Option.some.injEq, Prod.mk.injEq, reduceCtorEq] at h
  obtain ⟨rfl, rfl, rfl⟩ := h
  obtain ⟨⟨l, rfl, rfl⟩, h1, h2⟩ := hp
  simp only [plR, ShR, dF, List.append_nil] at h2 ⊢
  exact Pl_con l h1 h2)
theorem eLen_ok : EntOk Try.prog eLen := entC_ok (by
  intro a rows p v news h hp
  split at h <;> simp only [Option.some.injEq, Prod.mk.injEq, reduceCtorEq] at h
  obtain ⟨rfl, rfl, rfl⟩ := h
  obtain ⟨⟨l, rfl, rfl⟩, h1, h2⟩ := hp
  simp only [lenR, ShR, dF, List.append_nil] at h2 ⊢
  exact Le_con l h1 h2)
theorem eCp_ok : EntOk Try.prog eCp := entC_ok (by
  intro a rows p v news h hp
  split at h <;> simp only [Option.some.injEq, Prod.mk.injEq, reduceCtorEq] at h
  obtain ⟨rfl, rfl, rfl⟩ := h
  obtain ⟨⟨l, rfl, rfl⟩, h1, h2⟩ := hp
  exact Cp_con (L _) (L _) (L _) (L _) l _ h1 h2)
end Go.Proofs.Yteodlmfnkjdhhaa.tk
