/- The document's own messages: single fields, lists of fields. -/
import Derived.Test.YteodlmfnkjdhhaaSz9
import Derived.Test.YteodlmfnkjdhhaaRows
import Derived.Test.YteodlmfnkjdhhaaLmsScan
import Derived.Test.YteodlmfnkjdhhaaLrtToken
import Derived.Test.YteodlmfnkjdhhaaLrtNum
set_option linter.unusedSimpArgs false
set_option linter.unusedVariables false
namespace Go.Proofs.Yteodlmfnkjdhhaa.tk
open Go Go.Ev Go.Sy Go.RowKit Go.Proofs.Yteodlmfnkjdhhaa.gl
def upC (c : UInt8) : Bool := decide (65 ≤ c.toNat ∧ c.toNat ≤ 90)
def noUp (l : List UInt8) : Bool := l.all fun c => !upC c
def nameL (l : List UInt8) : Bool := noUp l && tokL l
def nameS (s : ByteArray) : Bool := nameL (L s)
def rlK (r : Row) : Int := if lenR r = -2 then -1 else lenR r
def rlB (r : Row) : Bool := !decide (lenR r = -2)
def noCol (l : List Fl) : Bool := l.all fun f => !colB f.n
def baB (l : List Fl) : Bool := noCol (l.drop (psN l))
def baR (r : Row) : Bool := baB (decF r.cells)
noncomputable def eRtk : EntM := entC 39 fun a r => match a, r with
  | [.string s], [] => some ((L s).length ≤ maxLen, .bool (tokS s), [])
  | _, _ => none
noncomputable def eRnum : EntM := entC 40 fun a r => match a, r with
  | [.string s], [] => some ((L s).length ≤ maxLen, .int .i64 (secS s), [])
  | _, _ => none
noncomputable def eRnm : EntM := entC 41 fun a r => match a, r with
  | [.string s], [] => some ((L s).length ≤ maxLen, .bool (nameS s), [])
  | _, _ => none
noncomputable def eRpl : EntM := entC 20 fun a r => match a, r with
  | [.slice (some ⟨0, 0, none⟩) n 2], [r0] => some (IsF r0 n ∧ n ≤ maxLen ∧ ShR r0, .bool (plR r0), [])
  | _, _ => none
noncomputable def eRln : EntM := entC 38 fun a r => match a, r with
  | [.slice (some ⟨0, 0, none⟩) n 2], [r0] => some (IsF r0 n ∧ n ≤ maxLen ∧ ShR r0, .tuple #[.int .i64 (rlK r0), .bool (rlB r0)], [])
  | _, _ => none
noncomputable def eRba : EntM := entC 17 fun a r => match a, r with
  | [.slice (some ⟨0, 0, none⟩) n 2], [r0] => some (IsF r0 n ∧ n ≤ maxLen, .tuple #[.int .i64 (psR r0), .bool (baR r0)], [])
  | _, _ => none
noncomputable def tRnm : List EntM := [eRtk]
noncomputable abbrev EtRnm : Env := envT Try.prog tRnm
noncomputable def tRpl : List EntM := [eRnm, eRvl]
noncomputable abbrev EtRpl : Env := envT Try.prog tRpl
noncomputable def tRln : List EntM := [eRnum]
noncomputable abbrev EtRln : Env := envT Try.prog tRln
def slRnm (l : List UInt8) (i : Nat) : List (Nat × Value) := [(0, .string (bs l)), (3, .int .i64 (i : Nat))]
def wsRnm (l : List UInt8) : List (Gate Unit) := [⟨.exit 0, fun _ => noUp l = true, fun _ => [(0, .string (bs l))], fun _ => [], 0⟩, ⟨.ret, fun _ => noUp l = false, fun _ => [(2, .bool false)], fun _ => [], 0⟩]
def specRnm : Sy.Spec := specOf 0 0 22 (fun l : List UInt8 => l.length ≤ maxLen) (fun l => slRnm l 0) (fun _ => []) wsRnm
def mRnm := mOf [(41, pPs, specRnm)]
def slRpl (l : List Fl) (i : Nat) : List (Nat × Value) := [(0, .slice (some ⟨0, 0, none⟩) l.length 2), (3, .int .i64 (i : Nat))]
def specRpl : Sy.Spec := specOf 1 1 38 (fun l : List Fl => l.length ≤ maxLen ∧ ShortF l) (fun l => slRpl l 0) rl1 wsPl
def mRpl := mOf [(20, pPs, specRpl)]
def slRln (l : List Fl) (s : StI) : List (Nat × Value) := [(0, .slice (some ⟨0, 0, none⟩) l.length 2), (4, .int .i64 s.n), (5, .int .i64 (s.i : Nat))]
def wsRln (l : List Fl) : List (Gate Unit) := [⟨.exit 0, fun _ => lenL l ≠ -2, fun _ => [(4, .int .i64 (lenL l))], fun _ => rl1 l, 1⟩, ⟨.ret, fun _ => lenL l = -2, fun _ => [(2, .int .i64 (-1)), (3, .bool false)], fun _ => rl1 l, 1⟩]
def specRln : Sy.Spec := specOf 1 1 45 (fun l : List Fl => l.length ≤ maxLen ∧ ShortF l) (fun l => slRln l ⟨-1, 0⟩) rl1 wsRln
def mRln := mOf [(38, pLe, specRln)]
def slRba (l : List Fl) (s : StN) : List (Nat × Value) := [(0, .slice (some ⟨0, 0, none⟩) l.length 2), (4, .int .i64 (s.n : Nat)), (5, .int .i64 (s.i : Nat))]
def wsRba (l : List Fl) : List (Gate Unit) := [⟨.exit 0, fun _ => baB l = true, fun _ => [(4, .int .i64 (psN l : Nat))], fun _ => rl1 l, 1⟩, ⟨.ret, fun _ => baB l = false, fun _ => [(2, .int .i64 (psN l : Nat)), (3, .bool false)], fun _ => rl1 l, 1⟩]
def specRba : Sy.Spec := specOf 1 1 35 (fun l : List Fl => l.length ≤ maxLen) (fun l => slRba l ⟨0, 0⟩) rl1 wsRba
def mRba := mOf [(17, pLe, specRba)]
theorem Rnm_round (l : List UInt8) (i : Nat) (Inv : Nat → Prop) (m : Nat → Nat) : mev EtRnm noM 60 41 (0 :: pPs) false (codeOf Try.prog 41 (0 :: pPs)) ⟨mkOv (slRnm l i), 22, []⟩ none ⟨mkR [], 0⟩ (roundK 0 0 22 Inv m (slRnm l) (fun _ => []) (wsRnm l) i) =
  (br (decide ((↑i : Int) < Int.ofNat (List.length (Array.toList (ByteArray.data (bs l))))))
   (br (decide ((0 : Int) ≤ (↑i : Int) ∧ (↑i : Int) < (↑(List.length (Array.toList (ByteArray.data (bs l)))) : Int)))
    (br (decide (byteAt (bs l) (Int.toNat (↑i : Int)) ≥ (65 : Int)))
     (br (decide ((0 : Int) ≤ (↑i : Int) ∧ (↑i : Int) < (↑(List.length (Array.toList (ByteArray.data (bs l)))) : Int)))
      (br (decide (byteAt (bs l) (Int.toNat (↑i : Int)) ≤ (90 : Int)))
       (∃ y : Unit, ((noUp l = false) ∧
       ((false = false) ∧
       True)))
       (∃ j : Nat, ((Inv j) ∧
       ((m j < m i) ∧
       ((bs l = bs l) ∧
       (((↑j : Int) = IntKind.wrap IntKind.i64 ((↑i : Int) + (1 : Int))) ∧
       True))))))
      False)
     (∃ j : Nat, ((Inv j) ∧
     ((m j < m i) ∧
     ((bs l = bs l) ∧
     (((↑j : Int) = IntKind.wrap IntKind.i64 ((↑i : Int) + (1 : Int))) ∧
     True))))))
    False)
   (∃ y : Unit, ((noUp l = true) ∧
   ((bs l = bs l) ∧
   True)))) := by kernel_rfl
theorem Rnm_vc (l : List UInt8) (v : Bool) : mcall EtRnm mRnm 60 41 [.string (bs l)] ⟨mkR (nums 0 []), 0⟩ (retIs 0 (.bool v) []) =
  (∃ g : List UInt8, ((List.length g ≤ (9223372036854775807 : Nat)) ∧
  ((bs g = bs l) ∧
  (((0 : Int) = (0 : Int)) ∧
  (∀ (side : Bool), (br (side)
   (∀ (y : Unit), ((noUp g = true) →
   ((((True ∧ True) ∧ (True ∧ (True ∧ List.length (L (bs g)) ≤ (9223372036854775807 : Nat))))) ∧
   ((v = tokS (bs g)) ∧
   True))))
   (∀ (y : Unit), ((noUp g = false) →
   ((v = false) ∧
   True))))))))) := by kernel_rfl
theorem Rpl_round (l : List Fl) (s : Nat) (Inv : Nat → Prop) (m : Nat → Nat) : mev EtRpl noM 60 20 (0 :: pPs) false (codeOf Try.prog 20 (0 :: pPs)) ⟨mkOv (slRpl l s), 38, []⟩ none ⟨mkR (rl1 l), 1⟩ (roundK 1 1 38 Inv m (slRpl l) (fun _ => rl1 l) (wsPl l) s) =
  (br (decide ((↑s : Int) < Int.ofNat (List.length l)))
   (br (decide ((0 : Int) ≤ (↑s : Int) ∧ (↑s : Int) < (↑(List.length l) : Int)))
    ((Eq (α := Option Value) ((gC enF l)[(0 : Nat) + Int.toNat (↑s : Int) * (2 : Nat)]?) (some (Value.string (cellS (gC enF l) ((0 : Nat) + Int.toNat (↑s : Int) * (2 : Nat)))))) ∧
    ((Eq (α := Option Value) ((gC enF l)[(0 : Nat) + Int.toNat (↑s : Int) * (2 : Nat) + (1 : Nat)]?) (some (Value.string (cellS (gC enF l) ((0 : Nat) + Int.toNat (↑s : Int) * (2 : Nat) + (1 : Nat)))))) ∧
    ((((True ∧ True) ∧ (True ∧ (True ∧ List.length (L (cellS (gC enF l) ((0 : Nat) + Int.toNat (↑s : Int) * (2 : Nat)))) ≤ (9223372036854775807 : Nat))))) ∧
    (br (!nameS (cellS (gC enF l) ((0 : Nat) + Int.toNat (↑s : Int) * (2 : Nat))))
     (∃ y : Unit, ((plL l = false) ∧
     ((false = false) ∧
     ((Eq (α := List Value) (gC enF l) (gC enF l)) ∧
     ((Plain (gC enF l)) ∧
     True)))))
     ((((True ∧ True) ∧ (True ∧ (True ∧ List.length (L (cellS (gC enF l) ((0 : Nat) + Int.toNat (↑s : Int) * (2 : Nat) + (1 : Nat)))) ≤ (9223372036854775807 : Nat))))) ∧
     (br (!valS (cellS (gC enF l) ((0 : Nat) + Int.toNat (↑s : Int) * (2 : Nat) + (1 : Nat))))
      (∃ y : Unit, ((plL l = false) ∧
      ((false = false) ∧
      ((Eq (α := List Value) (gC enF l) (gC enF l)) ∧
      ((Plain (gC enF l)) ∧
      True)))))
      (br (strEq (cellS (gC enF l) ((0 : Nat) + Int.toNat (↑s : Int) * (2 : Nat))) (ByteArray.mk #[(99 : UInt8), (111 : UInt8), (110 : UInt8), (110 : UInt8), (101 : UInt8), (99 : UInt8), (116 : UInt8), (105 : UInt8), (111 : UInt8), (110 : UInt8)]))
       (∃ y : Unit, ((plL l = false) ∧
       ((false = false) ∧
       ((Eq (α := List Value) (gC enF l) (gC enF l)) ∧
       ((Plain (gC enF l)) ∧
       True)))))
       (br (strEq (cellS (gC enF l) ((0 : Nat) + Int.toNat (↑s : Int) * (2 : Nat))) (ByteArray.mk #[(112 : UInt8), (114 : UInt8), (111 : UInt8), (120 : UInt8), (121 : UInt8), (45 : UInt8), (99 : UInt8), (111 : UInt8), (110 : UInt8), (110 : UInt8), (101 : UInt8), (99 : UInt8), (116 : UInt8), (105 : UInt8), (111 : UInt8), (110 : UInt8)]))
        (∃ y : Unit, ((plL l = false) ∧
        ((false = false) ∧
        ((Eq (α := List Value) (gC enF l) (gC enF l)) ∧
        ((Plain (gC enF l)) ∧
        True)))))
        (br (strEq (cellS (gC enF l) ((0 : Nat) + Int.toNat (↑s : Int) * (2 : Nat))) (ByteArray.mk #[(107 : UInt8), (101 : UInt8), (101 : UInt8), (112 : UInt8), (45 : UInt8), (97 : UInt8), (108 : UInt8), (105 : UInt8), (118 : UInt8), (101 : UInt8)]))
         (∃ y : Unit, ((plL l = false) ∧
         ((false = false) ∧
         ((Eq (α := List Value) (gC enF l) (gC enF l)) ∧
         ((Plain (gC enF l)) ∧
         True)))))
         (br (strEq (cellS (gC enF l) ((0 : Nat) + Int.toNat (↑s : Int) * (2 : Nat))) (ByteArray.mk #[(116 : UInt8), (114 : UInt8), (97 : UInt8), (110 : UInt8), (115 : UInt8), (102 : UInt8), (101 : UInt8), (114 : UInt8), (45 : UInt8), (101 : UInt8), (110 : UInt8), (99 : UInt8), (111 : UInt8), (100 : UInt8), (105 : UInt8), (110 : UInt8), (103 : UInt8)]))
          (∃ y : Unit, ((plL l = false) ∧
          ((false = false) ∧
          ((Eq (α := List Value) (gC enF l) (gC enF l)) ∧
          ((Plain (gC enF l)) ∧
          True)))))
          (br (strEq (cellS (gC enF l) ((0 : Nat) + Int.toNat (↑s : Int) * (2 : Nat))) (ByteArray.mk #[(117 : UInt8), (112 : UInt8), (103 : UInt8), (114 : UInt8), (97 : UInt8), (100 : UInt8), (101 : UInt8)]))
           (∃ y : Unit, ((plL l = false) ∧
           ((false = false) ∧
           ((Eq (α := List Value) (gC enF l) (gC enF l)) ∧
           ((Plain (gC enF l)) ∧
           True)))))
           (br (strEq (cellS (gC enF l) ((0 : Nat) + Int.toNat (↑s : Int) * (2 : Nat))) (ByteArray.mk #[(116 : UInt8), (101 : UInt8)]))
            (br (!strEq (cellS (gC enF l) ((0 : Nat) + Int.toNat (↑s : Int) * (2 : Nat) + (1 : Nat))) (ByteArray.mk #[(116 : UInt8), (114 : UInt8), (97 : UInt8), (105 : UInt8), (108 : UInt8), (101 : UInt8), (114 : UInt8), (115 : UInt8)]))
             (∃ y : Unit, ((plL l = false) ∧
             ((false = false) ∧
             ((Eq (α := List Value) (gC enF l) (gC enF l)) ∧
             ((Plain (gC enF l)) ∧
             True)))))
             (∃ j : Nat, ((Inv j) ∧
             ((m j < m s) ∧
             (((0 : Nat) = (0 : Nat)) ∧
             ((List.length l = List.length l) ∧
             (((↑j : Int) = IntKind.wrap IntKind.i64 ((↑s : Int) + (1 : Int))) ∧
             ((Eq (α := List Value) (gC enF l) (gC enF l)) ∧
             ((Plain (gC enF l)) ∧
             True)))))))))
            (∃ j : Nat, ((Inv j) ∧
            ((m j < m s) ∧
            (((0 : Nat) = (0 : Nat)) ∧
            ((List.length l = List.length l) ∧
            (((↑j : Int) = IntKind.wrap IntKind.i64 ((↑s : Int) + (1 : Int))) ∧
            ((Eq (α := List Value) (gC enF l) (gC enF l)) ∧
            ((Plain (gC enF l)) ∧
            True))))))))))))))))))))
    False)
   (∃ y : Unit, ((plL l = true) ∧
   ((Eq (α := List Value) (gC enF l) (gC enF l)) ∧
   ((Plain (gC enF l)) ∧
   True))))) := by kernel_rfl
theorem Rpl_vc (l : List Fl) (v : Bool) : mcall EtRpl mRpl 60 20 [.slice (some ⟨0, 0, none⟩) l.length 2] ⟨mkR (nums 0 [gRo enF l]), 1⟩ (retIs 1 (.bool v) [gRo enF l]) =
  (∃ g : List Fl, ((List.length g ≤ (9223372036854775807 : Nat) ∧ ShortF g) ∧
  (((0 : Nat) = (0 : Nat)) ∧
  ((List.length g = List.length l) ∧
  (((0 : Int) = (0 : Int)) ∧
  ((Eq (α := List Value) (gC enF g) (gC enF l)) ∧
  ((Plain (gC enF g)) ∧
  (∀ (side : Bool), (br (side)
   (∀ (y : Unit), ((plL g = true) →
   ((v = true) ∧
   ((Eq (α := List Value) (gC enF l) (gC enF g)) ∧
   ((Plain (gC enF l)) ∧
   True)))))
   (∀ (y : Unit), ((plL g = false) →
   ((v = false) ∧
   ((Eq (α := List Value) (gC enF l) (gC enF g)) ∧
   ((Plain (gC enF l)) ∧
   True)))))))))))))) := by kernel_rfl
theorem Rln_round (l : List Fl) (s : StI) (Inv : StI → Prop) (m : StI → Nat) : mev EtRln noM 60 38 (0 :: pLe) false (codeOf Try.prog 38 (0 :: pLe)) ⟨mkOv (slRln l s), 45, []⟩ none ⟨mkR (rl1 l), 1⟩ (roundK 1 1 45 Inv m (slRln l) (fun _ => rl1 l) (wsRln l) s) =
  (br (decide ((↑s.2 : Int) < Int.ofNat (List.length l)))
   (br (decide ((0 : Int) ≤ (↑s.2 : Int) ∧ (↑s.2 : Int) < (↑(List.length l) : Int)))
    ((Eq (α := Option Value) ((gC enF l)[(0 : Nat) + Int.toNat (↑s.2 : Int) * (2 : Nat) + (0 : Nat)]?) (some (Value.string (cellS (gC enF l) ((0 : Nat) + Int.toNat (↑s.2 : Int) * (2 : Nat) + (0 : Nat)))))) ∧
    (br (!strEq (cellS (gC enF l) ((0 : Nat) + Int.toNat (↑s.2 : Int) * (2 : Nat) + (0 : Nat))) (ByteArray.mk #[(99 : UInt8), (111 : UInt8), (110 : UInt8), (116 : UInt8), (101 : UInt8), (110 : UInt8), (116 : UInt8), (45 : UInt8), (108 : UInt8), (101 : UInt8), (110 : UInt8), (103 : UInt8), (116 : UInt8), (104 : UInt8)]))
     (∃ j : StI, ((Inv j) ∧
     ((m j < m s) ∧
     (((0 : Nat) = (0 : Nat)) ∧
     ((List.length l = List.length l) ∧
     ((j.1 = s.1) ∧
     (((↑j.2 : Int) = IntKind.wrap IntKind.i64 ((↑s.2 : Int) + (1 : Int))) ∧
     ((Eq (α := List Value) (gC enF l) (gC enF l)) ∧
     ((Plain (gC enF l)) ∧
     True)))))))))
     (br (decide ((0 : Int) ≤ (↑s.2 : Int) ∧ (↑s.2 : Int) < (↑(List.length l) : Int)))
      ((Eq (α := Option Value) ((gC enF l)[(0 : Nat) + Int.toNat (↑s.2 : Int) * (2 : Nat) + (1 : Nat)]?) (some (Value.string (cellS (gC enF l) ((0 : Nat) + Int.toNat (↑s.2 : Int) * (2 : Nat) + (1 : Nat)))))) ∧
      (br (decide (Int.ofNat (List.length (Array.toList (ByteArray.data (cellS (gC enF l) ((0 : Nat) + Int.toNat (↑s.2 : Int) * (2 : Nat) + (1 : Nat)))))) > (9 : Int)))
       (∃ y : Unit, ((lenL l = (-2 : Int)) ∧
       (((-1 : Int) = (-1 : Int)) ∧
       ((false = false) ∧
       ((Eq (α := List Value) (gC enF l) (gC enF l)) ∧
       ((Plain (gC enF l)) ∧
       True))))))
       ((((True ∧ True) ∧ (True ∧ (True ∧ List.length (L (cellS (gC enF l) ((0 : Nat) + Int.toNat (↑s.2 : Int) * (2 : Nat) + (1 : Nat)))) ≤ (9223372036854775807 : Nat))))) ∧
       (br (decide (secS (cellS (gC enF l) ((0 : Nat) + Int.toNat (↑s.2 : Int) * (2 : Nat) + (1 : Nat))) < (0 : Int)))
        (∃ y : Unit, ((lenL l = (-2 : Int)) ∧
        (((-1 : Int) = (-1 : Int)) ∧
        ((false = false) ∧
        ((Eq (α := List Value) (gC enF l) (gC enF l)) ∧
        ((Plain (gC enF l)) ∧
        True))))))
        (br (decide (s.1 ≥ (0 : Int)))
         ((((True ∧ True) ∧ (True ∧ (True ∧ List.length (L (cellS (gC enF l) ((0 : Nat) + Int.toNat (↑s.2 : Int) * (2 : Nat) + (1 : Nat)))) ≤ (9223372036854775807 : Nat))))) ∧
         (br (secS (cellS (gC enF l) ((0 : Nat) + Int.toNat (↑s.2 : Int) * (2 : Nat) + (1 : Nat))) != s.1)
          (∃ y : Unit, ((lenL l = (-2 : Int)) ∧
          (((-1 : Int) = (-1 : Int)) ∧
          ((false = false) ∧
          ((Eq (α := List Value) (gC enF l) (gC enF l)) ∧
          ((Plain (gC enF l)) ∧
          True))))))
          ((((True ∧ True) ∧ (True ∧ (True ∧ List.length (L (cellS (gC enF l) ((0 : Nat) + Int.toNat (↑s.2 : Int) * (2 : Nat) + (1 : Nat)))) ≤ (9223372036854775807 : Nat))))) ∧
          (∃ j : StI, ((Inv j) ∧
          ((m j < m s) ∧
          (((0 : Nat) = (0 : Nat)) ∧
          ((List.length l = List.length l) ∧
          ((j.1 = secS (cellS (gC enF l) ((0 : Nat) + Int.toNat (↑s.2 : Int) * (2 : Nat) + (1 : Nat)))) ∧
          (((↑j.2 : Int) = IntKind.wrap IntKind.i64 ((↑s.2 : Int) + (1 : Int))) ∧
          ((Eq (α := List Value) (gC enF l) (gC enF l)) ∧
          ((Plain (gC enF l)) ∧
          True))))))))))))
         ((((True ∧ True) ∧ (True ∧ (True ∧ List.length (L (cellS (gC enF l) ((0 : Nat) + Int.toNat (↑s.2 : Int) * (2 : Nat) + (1 : Nat)))) ≤ (9223372036854775807 : Nat))))) ∧
         (∃ j : StI, ((Inv j) ∧
         ((m j < m s) ∧
         (((0 : Nat) = (0 : Nat)) ∧
         ((List.length l = List.length l) ∧
         ((j.1 = secS (cellS (gC enF l) ((0 : Nat) + Int.toNat (↑s.2 : Int) * (2 : Nat) + (1 : Nat)))) ∧
         (((↑j.2 : Int) = IntKind.wrap IntKind.i64 ((↑s.2 : Int) + (1 : Int))) ∧
         ((Eq (α := List Value) (gC enF l) (gC enF l)) ∧
         ((Plain (gC enF l)) ∧
         True)))))))))))))))
      False)))
    False)
   (∃ y : Unit, ((lenL l ≠ (-2 : Int)) ∧
   ((lenL l = s.1) ∧
   ((Eq (α := List Value) (gC enF l) (gC enF l)) ∧
   ((Plain (gC enF l)) ∧
   True)))))) := by kernel_rfl
theorem Rln_vc (l : List Fl) (v : Int) (b : Bool) : mcall EtRln mRln 60 38 [.slice (some ⟨0, 0, none⟩) l.length 2] ⟨mkR (nums 0 [gRo enF l]), 1⟩ (retIs 1 (.tuple #[.int .i64 v, .bool b]) [gRo enF l]) =
  (∃ g : List Fl, ((List.length g ≤ (9223372036854775807 : Nat) ∧ ShortF g) ∧
  (((0 : Nat) = (0 : Nat)) ∧
  ((List.length g = List.length l) ∧
  (((-1 : Int) = (-1 : Int)) ∧
  (((0 : Int) = (0 : Int)) ∧
  ((Eq (α := List Value) (gC enF g) (gC enF l)) ∧
  ((Plain (gC enF g)) ∧
  (∀ (side : Bool), (br (side)
   (∀ (y : Unit), ((lenL g ≠ (-2 : Int)) →
   ((v = lenL g) ∧
   ((b = true) ∧
   ((Eq (α := List Value) (gC enF l) (gC enF g)) ∧
   ((Plain (gC enF l)) ∧
   True))))))
   (∀ (y : Unit), ((lenL g = (-2 : Int)) →
   ((v = (-1 : Int)) ∧
   ((b = false) ∧
   ((Eq (α := List Value) (gC enF l) (gC enF g)) ∧
   ((Plain (gC enF l)) ∧
   True)))))))))))))))) := by kernel_rfl
theorem Rba_round (l : List Fl) (s : StN) (Inv : StN → Prop) (m : StN → Nat) : mev E0 noM 60 17 (0 :: pLe) false (codeOf Try.prog 17 (0 :: pLe)) ⟨mkOv (slRba l s), 35, []⟩ none ⟨mkR (rl1 l), 1⟩ (roundK 1 1 35 Inv m (slRba l) (fun _ => rl1 l) (wsRba l) s) =
  (br (decide ((↑s.2 : Int) < Int.ofNat (List.length l)))
   (br (decide ((0 : Int) ≤ (↑s.2 : Int) ∧ (↑s.2 : Int) < (↑(List.length l) : Int)))
    ((Eq (α := Option Value) ((gC enF l)[(0 : Nat) + Int.toNat (↑s.2 : Int) * (2 : Nat) + (0 : Nat)]?) (some (Value.string (cellS (gC enF l) ((0 : Nat) + Int.toNat (↑s.2 : Int) * (2 : Nat) + (0 : Nat)))))) ∧
    (br (decide (Int.ofNat (List.length (Array.toList (ByteArray.data (cellS (gC enF l) ((0 : Nat) + Int.toNat (↑s.2 : Int) * (2 : Nat) + (0 : Nat)))))) > (0 : Int)))
     (br (decide ((0 : Int) ≤ (↑s.2 : Int) ∧ (↑s.2 : Int) < (↑(List.length l) : Int)))
      ((Eq (α := Option Value) ((gC enF l)[(0 : Nat) + Int.toNat (↑s.2 : Int) * (2 : Nat) + (0 : Nat)]?) (some (Value.string (cellS (gC enF l) ((0 : Nat) + Int.toNat (↑s.2 : Int) * (2 : Nat) + (0 : Nat)))))) ∧
      (br (decide ((0 : Int) ≤ (0 : Int) ∧ (0 : Int) < (↑(List.length (Array.toList (ByteArray.data (cellS (gC enF l) ((0 : Nat) + Int.toNat (↑s.2 : Int) * (2 : Nat) + (0 : Nat)))))) : Int)))
       (br (byteAt (cellS (gC enF l) ((0 : Nat) + Int.toNat (↑s.2 : Int) * (2 : Nat) + (0 : Nat))) (0 : Nat) == (58 : Int))
        (br (decide ((↑s.1 : Int) < (↑s.2 : Int)))
         (∃ y : Unit, ((baB l = false) ∧
         (((↑(psN l) : Int) = (↑s.1 : Int)) ∧
         ((false = false) ∧
         ((Eq (α := List Value) (gC enF l) (gC enF l)) ∧
         ((Plain (gC enF l)) ∧
         True))))))
         (∃ j : StN, ((Inv j) ∧
         ((m j < m s) ∧
         (((0 : Nat) = (0 : Nat)) ∧
         ((List.length l = List.length l) ∧
         (((↑j.1 : Int) = IntKind.wrap IntKind.i64 ((↑s.1 : Int) + (1 : Int))) ∧
         (((↑j.2 : Int) = IntKind.wrap IntKind.i64 ((↑s.2 : Int) + (1 : Int))) ∧
         ((Eq (α := List Value) (gC enF l) (gC enF l)) ∧
         ((Plain (gC enF l)) ∧
         True))))))))))
        (∃ j : StN, ((Inv j) ∧
        ((m j < m s) ∧
        (((0 : Nat) = (0 : Nat)) ∧
        ((List.length l = List.length l) ∧
        (((↑j.1 : Int) = (↑s.1 : Int)) ∧
        (((↑j.2 : Int) = IntKind.wrap IntKind.i64 ((↑s.2 : Int) + (1 : Int))) ∧
        ((Eq (α := List Value) (gC enF l) (gC enF l)) ∧
        ((Plain (gC enF l)) ∧
        True))))))))))
       False))
      False)
     (∃ j : StN, ((Inv j) ∧
     ((m j < m s) ∧
     (((0 : Nat) = (0 : Nat)) ∧
     ((List.length l = List.length l) ∧
     (((↑j.1 : Int) = (↑s.1 : Int)) ∧
     (((↑j.2 : Int) = IntKind.wrap IntKind.i64 ((↑s.2 : Int) + (1 : Int))) ∧
     ((Eq (α := List Value) (gC enF l) (gC enF l)) ∧
     ((Plain (gC enF l)) ∧
     True)))))))))))
    False)
   (∃ y : Unit, ((baB l = true) ∧
   (((↑(psN l) : Int) = (↑s.1 : Int)) ∧
   ((Eq (α := List Value) (gC enF l) (gC enF l)) ∧
   ((Plain (gC enF l)) ∧
   True)))))) := by kernel_rfl
theorem Rba_vc (l : List Fl) (v : Int) (b : Bool) : mcall E0 mRba 60 17 [.slice (some ⟨0, 0, none⟩) l.length 2] ⟨mkR (nums 0 [gRo enF l]), 1⟩ (retIs 1 (.tuple #[.int .i64 v, .bool b]) [gRo enF l]) =
  (∃ g : List Fl, ((List.length g ≤ (9223372036854775807 : Nat)) ∧
  (((0 : Nat) = (0 : Nat)) ∧
  ((List.length g = List.length l) ∧
  (((0 : Int) = (0 : Int)) ∧
  (((0 : Int) = (0 : Int)) ∧
  ((Eq (α := List Value) (gC enF g) (gC enF l)) ∧
  ((Plain (gC enF g)) ∧
  (∀ (side : Bool), (br (side)
   (∀ (y : Unit), ((baB g = true) →
   ((v = (↑(psN g) : Int)) ∧
   ((b = true) ∧
   ((Eq (α := List Value) (gC enF l) (gC enF g)) ∧
   ((Plain (gC enF l)) ∧
   True))))))
   (∀ (y : Unit), ((baB g = false) →
   ((v = (↑(psN g) : Int)) ∧
   ((b = false) ∧
   ((Eq (α := List Value) (gC enF l) (gC enF g)) ∧
   ((Plain (gC enF l)) ∧
   True)))))))))))))))) := by kernel_rfl
theorem eRtk_ok : EntOk Try.prog eRtk := entC_ok (by
  intro a rows p v news h hp
  split at h <;> simp only [Option.some.injEq, Prod.mk.injEq, reduceCtorEq] at h
  obtain ⟨rfl, rfl, rfl⟩ := h
  exact Rtk_con (L _) hp)
theorem eRnum_ok : EntOk Try.prog eRnum := entC_ok (by
  intro a rows p v news h hp
  split at h <;> simp only [Option.some.injEq, Prod.mk.injEq, reduceCtorEq] at h
  obtain ⟨rfl, rfl, rfl⟩ := h
  exact Rn_con (L _) hp)
theorem tRnm_ok : ∀ x ∈ tRnm, EntOk Try.prog x := all_cons eRtk_ok (all_nil)
theorem noUp_at {l : List UInt8} {i : Nat} (hi : i < l.length) : noUp (l.take (i + 1)) = (noUp (l.take i) && !upC l[i]) := by
  unfold noUp
  rw [List.take_succ_eq_append_getElem hi, List.all_append]; simp
theorem noUp_no {l : List UInt8} {i : Nat} (hi : i < l.length) (h : upC l[i] = true) : noUp l = false := by
  unfold noUp
  rw [List.all_eq_false]
  exact ⟨l[i], List.getElem_mem hi, by simp [h]⟩
theorem Rnm_piece : PieceOk EtRnm 0 (41, pPs, specRnm) := by
  refine piece_loop mixed (calls_envT tRnm_ok) (lok_envT _ _) lm_none (n := 60) (by kernel_rfl) (fun _ : List UInt8 => (0 : Nat)) (fun l i => i ≤ l.length ∧ noUp (l.take i) = true) (fun l i => l.length - i) (sl := slRnm) (rl := fun _ _ => []) (fun l hg => ⟨Nat.zero_le _, rfl⟩) (fun l i hg hi => ?_)
  refine (Rnm_round l i _ _).mpr ?_
  obtain ⟨h1, h2⟩ := hi
  have hm : maxLen = 9223372036854775807 := by unfold maxLen; rfl
  have hg' : l.length ≤ maxLen := hg
  simp only [ofNat_eq, toNat_cast, Nat.zero_add, Nat.add_zero, Nat.mul_one, List.drop_zero, bCells_len, bCells_drop, bCells_take, bCells_app, bCells_one, bCells_plain, List.length_replicate, List.length_append, List.length_take, List.length_drop, List.take_length, and_true, true_and, and_self, decide_true, List.length_nil, List.length_cons, Nat.sub_zero, dB_mk, dB_ro, List.take_zero, bs_dd]
  refine br_if (fun h => br_dec (by omega) ?_) (fun h => ⟨(), by rw [List.take_of_length_le (by omega)] at h2; exact h2⟩)
  have hi : i < l.length := by omega
  have ha := noUp_at hi
  have hn := noUp_no hi
  rw [byteAt_bs hi]
  have w : IntKind.wrap .i64 ((i : Int) + 1) = ((i + 1 : Nat) : Int) := i64_succ (by omega)
  generalize l[i] = c at *
  have key : upC c = decide (65 ≤ c.toNat ∧ c.toNat ≤ 90) := rfl
  have go : upC c = false → ∃ j, (j ≤ l.length ∧ noUp (l.take j) = true) ∧ l.length - j < l.length - i ∧ (j : Int) = ((i + 1 : Nat) : Int) := fun h => ⟨i + 1, ⟨by omega, by rw [ha, h2, h]; rfl⟩, by omega, rfl⟩
  rw [w]
  refine br_if (fun k => br_dec (by omega) (br_if (fun k2 => ⟨(), hn (by rw [key]; exact decide_eq_true (by omega))⟩) (fun k2 => go (by rw [key]; exact decide_eq_false (by omega))))) (fun k => go (by rw [key]; exact decide_eq_false (by omega)))
theorem Rnm_con (l : List UInt8) (hl : l.length ≤ maxLen) : Con Try.prog 41 [.string (bs l)] [] (.bool (nameL l)) [] := by
  refine con_vc (E := EtRnm) mixed (calls_envT tRnm_ok) (lok_envT _ _) (M := mRnm) (lm_one Rnm_piece) (Rnm_vc l _) ?_
  have hm : maxLen = 9223372036854775807 := by unfold maxLen; rfl
  simp only [ofNat_eq, toNat_cast, Nat.zero_add, Nat.add_zero, Nat.mul_one, List.drop_zero, bCells_len, bCells_drop, bCells_take, bCells_app, bCells_one, bCells_plain, List.length_replicate, List.length_append, List.length_take, List.length_drop, List.take_length, and_true, true_and, and_self, decide_true, List.length_nil, List.length_cons, Nat.sub_zero, dB_mk, dB_ro, List.take_zero, bs_dd]
  refine ⟨l, by omega, rfl, br_side (fun _ h => ⟨by rw [L_bse]; omega, ?_⟩) (fun _ h => ?_)⟩
  · unfold nameL; rw [h]; rfl
  · unfold nameL; rw [h]; rfl
theorem low_noUp (l : List UInt8) : noUp l = decide (lowerL l = l) := by
  unfold noUp lowerL
  induction l with
  | nil => rfl
  | cons c r ih =>
    have hc : decide (lowC c = c) = !upC c := by
      unfold lowC upC
      by_cases h : 65 ≤ c.toNat ∧ c.toNat ≤ 90
      · rw [if_pos h, decide_eq_true h]
        have : UInt8.ofNat (c.toNat + 32) ≠ c := fun e => by
          have := congrArg UInt8.toNat e
          rw [u8_toNat_ofNat (by omega)] at this; omega
        simp [this]
      · rw [if_neg h, decide_eq_false h]; simp
    rw [List.all_cons, ih, ← hc, List.map_cons]
    simp
theorem name_eq (l : List UInt8) : nameL l = (tokL l && decide (lowerL l = l)) := by
  unfold nameL; rw [low_noUp, Bool.and_comm]
theorem eRnm_ok : EntOk Try.prog eRnm := entC_ok (by
  intro a rows p v news h hp
  split at h <;> simp only [Option.some.injEq, Prod.mk.injEq, reduceCtorEq] at h
  obtain ⟨rfl, rfl, rfl⟩ := h
  exact Rnm_con (L _) hp)
theorem tRpl_ok : ∀ x ∈ tRpl, EntOk Try.prog x := all_cons eRnm_ok (all_cons eRvl_ok (all_nil))
theorem Rpl_piece : PieceOk EtRpl 1 (20, pPs, specRpl) := by
  refine piece_loop mixed (calls_envT tRpl_ok) (lok_envT _ _) lm_none (n := 60) (by kernel_rfl) (fun _ : List Fl => (0 : Nat)) (fun l i => i ≤ l.length ∧ plL (l.take i) = true) (fun l i => l.length - i) (sl := slRpl) (rl := fun l _ => rl1 l) (fun l hg => ⟨Nat.zero_le _, rfl⟩) (fun l i hg hi => ?_)
  refine (Rpl_round l i _ _).mpr ?_
  obtain ⟨h1, h2⟩ := hi
  obtain ⟨g1, g2⟩ := hg
  have hm : maxLen = 9223372036854775807 := by unfold maxLen; rfl
  simp only [ofNat_eq, toNat_cast, Nat.zero_add, Nat.add_zero, Nat.mul_one, List.drop_zero, bCells_len, bCells_drop, bCells_take, bCells_app, bCells_one, bCells_plain, List.length_replicate, List.length_append, List.length_take, List.length_drop, List.take_length, and_true, true_and, and_self, decide_true, List.length_nil, List.length_cons, Nat.sub_zero, dB_mk, dB_ro, List.take_zero, fPl, bs_dd]
  refine br_if (fun h => br_dec (by omega) ?_) (fun h => ⟨(), by rw [List.take_of_length_le (by omega)] at h2; exact h2⟩)
  have hi : i < l.length := by omega
  obtain ⟨c1, c2, c3, c4⟩ := fGet l i hi
  have ha := plL_at hi
  have hn := plL_no hi
  have hs := g2 _ (List.getElem_mem hi)
  have w : IntKind.wrap .i64 ((i : Int) + 1) = ((i + 1 : Nat) : Int) := i64_succ (by omega)
  generalize l[i] = f at *
  have q1 : (⟨#[116, 101]⟩ : ByteArray) = bs sTe := rfl
  have q2 : (⟨#[116, 114, 97, 105, 108, 101, 114, 115]⟩ : ByteArray) = bs sTrail := rfl
  have r1 : (⟨#[99, 111, 110, 110, 101, 99, 116, 105, 111, 110]⟩ : ByteArray) = bs sConn := rfl
  have r2 : (⟨#[112, 114, 111, 120, 121, 45, 99, 111, 110, 110, 101, 99, 116, 105, 111, 110]⟩ : ByteArray) = bs sPConn := rfl
  have r3 : (⟨#[107, 101, 101, 112, 45, 97, 108, 105, 118, 101]⟩ : ByteArray) = bs sKeep := rfl
  have r4 : (⟨#[116, 114, 97, 110, 115, 102, 101, 114, 45, 101, 110, 99, 111, 100, 105, 110, 103]⟩ : ByteArray) = bs sTrEn := rfl
  have r5 : (⟨#[117, 112, 103, 114, 97, 100, 101]⟩ : ByteArray) = bs sUpg := rfl
  have nm : nameS (bs f.n) = (tokL f.n && decide (lowerL f.n = f.n)) := name_eq f.n
  simp only [c1, c2, c3, c4, w, q1, q2, r1, r2, r3, r4, r5, strEq_bs, valS, L_bse, nm]
  have no : plF f = false → ∃ y : Unit, plL l = false := fun h => ⟨(), hn h⟩
  have go : plF f = true → ∃ j, (j ≤ l.length ∧ plL (l.take j) = true) ∧ l.length - j < l.length - i ∧ (j : Int) = ((i + 1 : Nat) : Int) := fun h => ⟨i + 1, ⟨by omega, by rw [ha, h2, h]; rfl⟩, by omega, rfl⟩
  have key : plF f = (tokL f.n && (decide (lowerL f.n = f.n) && (valL f.v && (!ocL f.n && !(decide (f.n = sTe) && !decide (f.v = sTrail)))))) := rfl
  have oc : ocL f.n = (decide (f.n = sConn) || (decide (f.n = sPConn) || (decide (f.n = sKeep) || (decide (f.n = sTrEn) || decide (f.n = sUpg))))) := rfl
  refine ⟨trivial, trivial, by omega, br_intro (fun k => no ?_) (fun k1 => ⟨by omega, br_intro (fun k => no ?_) (fun k2 => br_intro (fun k => no ?_) (fun k3 => br_intro (fun k => no ?_) (fun k4 => br_intro (fun k => no ?_) (fun k5 => br_intro (fun k => no ?_) (fun k6 => br_intro (fun k => no ?_) (fun k7 => br_intro (fun k8 => br_intro (fun k => no ?_) (fun k9 => go ?_)) (fun k8 => go ?_)))))))⟩)⟩
  all_goals rw [key, oc]
  · have k : (tokL f.n && decide (lowerL f.n = f.n)) = false := by simpa only [Bool.not_eq_true'] using k
    rw [← Bool.and_assoc, k]; rfl
  all_goals simp_all
theorem Rpl_con (l : List Fl) (h : l.length ≤ maxLen) (hs : ShortF l) : Con Try.prog 20 [.slice (some ⟨0, 0, none⟩) l.length 2] [gRo enF l] (.bool (plL l)) [gRo enF l] := by
  refine con_vc (E := EtRpl) mixed (calls_envT tRpl_ok) (lok_envT _ _) (M := mRpl) (lm_one Rpl_piece) (Rpl_vc l _) ?_
  have hm : maxLen = 9223372036854775807 := by unfold maxLen; rfl
  simp only [ofNat_eq, toNat_cast, Nat.zero_add, Nat.add_zero, Nat.mul_one, List.drop_zero, bCells_len, bCells_drop, bCells_take, bCells_app, bCells_one, bCells_plain, List.length_replicate, List.length_append, List.length_take, List.length_drop, List.take_length, and_true, true_and, and_self, decide_true, List.length_nil, List.length_cons, Nat.sub_zero, dB_mk, dB_ro, List.take_zero, fPl, bs_dd]
  exact ⟨l, ⟨by omega, hs⟩, rfl, rfl, br_side (fun y hy => ⟨hy, rfl⟩) (fun y hy => ⟨hy, rfl⟩)⟩
theorem eRpl_ok : EntOk Try.prog eRpl := entC_ok (by
  intro a rows p v news h hp
  split at h <;> simp only [Option.some.injEq, Prod.mk.injEq, reduceCtorEq] at h
  obtain ⟨rfl, rfl, rfl⟩ := h
  obtain ⟨⟨l, rfl, rfl⟩, h1, h2⟩ := hp
  simp only [plR, ShR, dF, List.append_nil] at h2 ⊢
  exact Rpl_con l h1 h2)
theorem tRln_ok : ∀ x ∈ tRln, EntOk Try.prog x := all_cons eRnum_ok (all_nil)
theorem sec_dig : ∀ (l : List UInt8) (n : Nat), (n + 1) * 10 ^ l.length ≤ 1000000000 → secF l n = digF l n
  | [], n, _ => rfl
  | c :: r, n, h => by
    rw [secF, digF]
    rw [List.length_cons, Nat.pow_succ] at h
    have key : isDg c = decide (48 ≤ c.toNat ∧ c.toNat ≤ 57) := rfl
    by_cases hc : 48 ≤ c.toNat ∧ c.toNat ≤ 57
    · rw [if_pos hc, if_pos (by rw [key]; exact decide_eq_true hc)]
      have h2 : (n * 10 + (c.toNat - 48) + 1) * 10 ^ r.length ≤ 1000000000 := by
        have h3 : (n * 10 + (c.toNat - 48) + 1) * 10 ^ r.length ≤ ((n + 1) * 10) * 10 ^ r.length := Nat.mul_le_mul_right _ (by omega)
        have h4 : ((n + 1) * 10) * 10 ^ r.length = (n + 1) * (10 ^ r.length * 10) := by rw [Nat.mul_assoc, Nat.mul_comm 10]
        omega
      have h5 : 0 < 10 ^ r.length := Nat.pow_pos (by omega)
      have h6 : n * 10 + (c.toNat - 48) + 1 ≤ 1000000000 := Nat.le_trans (Nat.le_mul_of_pos_right _ h5) h2
      rw [Nat.min_eq_left (by omega)]
      exact sec_dig r _ h2
    · rw [if_neg hc, if_neg (by rw [key]; simp; omega)]
theorem sec_nine {l : List UInt8} (h : l.length ≤ 9) : secL l = (match digL l 1 9 with | none => -1 | some m => (m : Int)) := by
  have hp : 10 ^ l.length ≤ 10 ^ 9 := Nat.pow_le_pow_right (by omega) h
  unfold secL digL
  by_cases h0 : l = []
  · subst h0; rfl
  · have : 0 < l.length := List.length_pos_iff.2 h0
    rw [if_neg h0, if_pos ⟨by omega, h⟩, sec_dig l 0 (by omega)]
    cases digF l 0 <;> rfl
theorem Rln_piece : PieceOk EtRln 1 (38, pLe, specRln) := by
  refine piece_loop mixed (calls_envT tRln_ok) (lok_envT _ _) lm_none (n := 60) (by kernel_rfl) (fun _ : List Fl => (⟨-1, 0⟩ : StI)) (fun l s => s.i ≤ l.length ∧ (-1 ≤ s.n ∧ s.n < 1000000000) ∧ lenL l = lenG s.n (l.drop s.i)) (fun l s => l.length - s.i) (sl := slRln) (rl := fun l _ => rl1 l) (fun l hg => ⟨Nat.zero_le _, by simp, rfl⟩) (fun l s hg hi => ?_)
  refine (Rln_round l s _ _).mpr ?_
  obtain ⟨n, i⟩ := s
  obtain ⟨h1, h2, h3⟩ := hi
  obtain ⟨g1, g2⟩ := hg
  have hm : maxLen = 9223372036854775807 := by unfold maxLen; rfl
  simp only at h1 h2 h3
  simp only [ofNat_eq, toNat_cast, Nat.zero_add, Nat.add_zero, Nat.mul_one, List.drop_zero, bCells_len, bCells_drop, bCells_take, bCells_app, bCells_one, bCells_plain, List.length_replicate, List.length_append, List.length_take, List.length_drop, List.take_length, and_true, true_and, and_self, decide_true, List.length_nil, List.length_cons, Nat.sub_zero, dB_mk, dB_ro, List.take_zero, fPl, bs_dd]
  refine br_if (fun h => br_dec (by omega) ?_) (fun h => ?_)
  rotate_left
  · have e : lenL l = n := by rw [h3, List.drop_eq_nil_of_le (by omega)]; rfl
    exact ⟨(), by omega, e⟩
  have hi : i < l.length := by omega
  obtain ⟨c1, c2, c3, c4⟩ := fGet l i hi
  have hd := List.drop_eq_getElem_cons hi
  rw [hd, lenG] at h3
  have hs := g2 _ (List.getElem_mem hi)
  have w : IntKind.wrap .i64 ((i : Int) + 1) = ((i + 1 : Nat) : Int) := i64_succ (by omega)
  generalize l[i] = f at *
  have q1 : (⟨#[99, 111, 110, 116, 101, 110, 116, 45, 108, 101, 110, 103, 116, 104]⟩ : ByteArray) = bs sCLen := rfl
  have d1 : secS (bs f.v) = secL f.v := rfl
  simp only [c1, c2, c3, c4, w, q1, strEq_bs, L_bse, d1, bs_dd]
  refine ⟨trivial, br_intro (fun k => ?_) (fun k => br_dec (by omega) ⟨trivial, br_if (fun k2 => ?_) (fun k2 => ⟨by omega, ?_⟩)⟩)⟩
  · have k : ¬ f.n = sCLen := by simpa using k
    rw [if_neg k] at h3
    exact ⟨⟨n, i + 1⟩, ⟨by simp only; omega, h2, h3⟩, by simp only; omega, rfl, rfl⟩
  · have k : f.n = sCLen := by simpa using k
    have hd : digL f.v 1 9 = none := by unfold digL; rw [if_neg (by omega)]
    rw [if_pos k, hd] at h3
    exact ⟨(), h3⟩
  · have k : f.n = sCLen := by simpa using k
    rw [if_pos k] at h3
    have h9 := sec_nine (l := f.v) (by omega)
    cases hd : digL f.v 1 9 with
    | none =>
      rw [hd] at h9 h3
      simp only at h9
      exact br_dec (by omega) ⟨(), h3⟩
    | some m =>
      rw [hd] at h9 h3
      simp only at h9 h3
      have hb := digL_bd (by omega) hd
      rw [h9]
      have go : lenL l = lenG (m : Nat) (l.drop (i + 1)) → ∃ j : StI, (j.i ≤ l.length ∧ (-1 ≤ j.n ∧ j.n < 1000000000) ∧ lenL l = lenG j.n (l.drop j.i)) ∧ l.length - j.i < l.length - i ∧ j.n = (m : Nat) ∧ (j.i : Int) = ((i + 1 : Nat) : Int) := fun h => ⟨⟨m, i + 1⟩, ⟨by simp only; omega, by simp only; omega, h⟩, by simp only; omega, rfl, rfl⟩
      refine br_nd (by omega) (br_if (fun k3 => ⟨by omega, br_intro (fun k4 => ?_) (fun k4 => ⟨by omega, go ?_⟩)⟩) (fun k3 => ⟨by omega, go ?_⟩))
      · rw [if_pos ⟨by omega, by simpa using k4⟩] at h3; exact ⟨(), h3⟩
      · rw [if_neg (fun hh => hh.2 (by simpa using k4))] at h3; exact h3
      · rw [if_neg (fun hh => hh.1 (by omega))] at h3; exact h3
theorem Rln_con (l : List Fl) (h : l.length ≤ maxLen) (hs : ShortF l) : Con Try.prog 38 [.slice (some ⟨0, 0, none⟩) l.length 2] [gRo enF l] (.tuple #[.int .i64 (if lenL l = -2 then -1 else lenL l), .bool (!decide (lenL l = -2))]) [gRo enF l] := by
  refine con_vc (E := EtRln) mixed (calls_envT tRln_ok) (lok_envT _ _) (M := mRln) (lm_one Rln_piece) (Rln_vc l _ _) ?_
  have hm : maxLen = 9223372036854775807 := by unfold maxLen; rfl
  simp only [ofNat_eq, toNat_cast, Nat.zero_add, Nat.add_zero, Nat.mul_one, List.drop_zero, bCells_len, bCells_drop, bCells_take, bCells_app, bCells_one, bCells_plain, List.length_replicate, List.length_append, List.length_take, List.length_drop, List.take_length, and_true, true_and, and_self, decide_true, List.length_nil, List.length_cons, Nat.sub_zero, dB_mk, dB_ro, List.take_zero, fPl, bs_dd]
  exact ⟨l, ⟨by omega, hs⟩, rfl, rfl, br_side (fun y hy => ⟨if_neg hy, by simp [hy], rfl⟩) (fun y hy => ⟨if_pos hy, by simp [hy], rfl⟩)⟩
theorem eRln_ok : EntOk Try.prog eRln := entC_ok (by
  intro a rows p v news h hp
  split at h <;> simp only [Option.some.injEq, Prod.mk.injEq, reduceCtorEq] at h
  obtain ⟨rfl, rfl, rfl⟩ := h
  obtain ⟨⟨l, rfl, rfl⟩, h1, h2⟩ := hp
  simp only [rlK, rlB, lenR, ShR, dF, List.append_nil] at h2 ⊢
  exact Rln_con l h1 h2)
theorem Rba_piece : PieceOk E0 1 (17, pLe, specRba) := by
  refine piece_loop mixed (calls_envN _) (lok_envN _) lm_none (n := 60) (by kernel_rfl) (fun _ : List Fl => (⟨0, 0⟩ : StN)) (fun l s => s.n ≤ s.i ∧ s.i ≤ l.length ∧ psN l = s.n + (if s.n = s.i then psN (l.drop s.i) else 0) ∧ noCol ((l.take s.i).drop s.n) = true) (fun l s => l.length - s.i) (sl := slRba) (rl := fun l _ => rl1 l) (fun l hg => ⟨Nat.le_refl _, Nat.zero_le _, by simp, rfl⟩) (fun l s hg hi => ?_)
  refine (Rba_round l s _ _).mpr ?_
  obtain ⟨n, i⟩ := s
  obtain ⟨h0, h1, h2, h3⟩ := hi
  have hm : maxLen = 9223372036854775807 := by unfold maxLen; rfl
  have hg' : l.length ≤ maxLen := hg
  simp only at h0 h1 h2 h3
  simp only [ofNat_eq, toNat_cast, Nat.zero_add, Nat.add_zero, Nat.mul_one, List.drop_zero, bCells_len, bCells_drop, bCells_take, bCells_app, bCells_one, bCells_plain, List.length_replicate, List.length_append, List.length_take, List.length_drop, List.take_length, and_true, true_and, and_self, decide_true, List.length_nil, List.length_cons, Nat.sub_zero, dB_mk, dB_ro, List.take_zero, fPl, bs_dd]
  refine br_if (fun h => br_dec (by omega) ?_) (fun h => ?_)
  rotate_left
  · have e : i = l.length := by omega
    have hp : psN l = n := by rw [h2]; split
                              · rw [List.drop_eq_nil_of_le (by omega)]; rfl
                              · rfl
    refine ⟨(), ?_, by omega⟩
    unfold baB; rw [hp]; rw [e, List.take_length] at h3; exact h3
  have hi : i < l.length := by omega
  obtain ⟨c1, c2, c3, c4⟩ := fGet l i hi
  have hd := List.drop_eq_getElem_cons hi
  have ht : l.take (i + 1) = l.take i ++ [l[i]] := List.take_succ_eq_append_getElem hi
  have hp : psN (l.drop i) = if colB l[i].n then 1 + psN (l.drop (i + 1)) else 0 := by
    unfold psN; rw [hd, List.takeWhile_cons]
    by_cases h : colB l[i].n = true
    · rw [if_pos h, if_pos h, List.length_cons]; omega
    · rw [if_neg h, if_neg h]; rfl
  have hin : ∀ k, k ≤ i → l[i] ∈ l.drop k := fun k hk => by
    rw [show l.drop k = (l.drop k).take (i - k) ++ (l.drop k).drop (i - k) from (List.take_append_drop _ _).symm, List.drop_drop, show k + (i - k) = i by omega, hd]
    exact List.mem_append_right _ List.mem_cons_self
  have w : IntKind.wrap .i64 ((i : Int) + 1) = ((i + 1 : Nat) : Int) := i64_succ (by omega)
  have w2 : IntKind.wrap .i64 ((n : Int) + 1) = ((n + 1 : Nat) : Int) := i64_succ (by omega)
  generalize l[i] = f at *
  simp only [c1, c2, c3, c4, w, w2, true_and]
  have hlt : (l.take i).length = i := by simp; omega
  have hn0 : n = i ∨ n < i := by omega
  have no : colB f.n = false → ∃ j : StN, (j.n ≤ j.i ∧ j.i ≤ l.length ∧ psN l = j.n + (if j.n = j.i then psN (l.drop j.i) else 0) ∧ noCol ((l.take j.i).drop j.n) = true) ∧ l.length - j.i < l.length - i ∧ (j.n : Int) = (n : Int) ∧ (j.i : Int) = ((i + 1 : Nat) : Int) := fun h => by
    refine ⟨⟨n, i + 1⟩, ⟨by simp only; omega, by simp only; omega, ?_, ?_⟩, by simp only; omega, rfl, rfl⟩
    · simp only
      rw [if_neg (by omega), h2]
      rcases hn0 with e | e
      · rw [if_pos e, hp, if_neg (by simp [h])]
      · rw [if_neg (by omega)]
    · simp only
      rw [ht, List.drop_append_of_le_length (by omega)]
      unfold noCol at h3 ⊢
      rw [List.all_append, h3]; simp [h]
  have yes : colB f.n = true → br (decide ((n : Int) < (i : Int))) (∃ y : Unit, baB l = false ∧ ((psN l : Nat) : Int) = (n : Int)) (∃ j : StN, (j.n ≤ j.i ∧ j.i ≤ l.length ∧ psN l = j.n + (if j.n = j.i then psN (l.drop j.i) else 0) ∧ noCol ((l.take j.i).drop j.n) = true) ∧ l.length - j.i < l.length - i ∧ (j.n : Int) = ((n + 1 : Nat) : Int) ∧ (j.i : Int) = ((i + 1 : Nat) : Int)) := fun hcol => by
    refine br_if (fun k => ?_) (fun k => ?_)
    · have e : psN l = n := by rw [h2, if_neg (by omega)]; rfl
      refine ⟨(), ?_, by omega⟩
      unfold baB noCol
      rw [e, List.all_eq_false]
      exact ⟨f, hin n (by omega), by simp [hcol]⟩
    · have e : n = i := by omega
      subst e
      refine ⟨⟨n + 1, n + 1⟩, ⟨Nat.le_refl _, by simp only; omega, ?_, ?_⟩, by simp only; omega, rfl, rfl⟩
      · simp only
        rw [if_pos rfl, hp, if_pos hcol] at h2
        rw [if_pos True.intro]; omega
      · simp only
        rw [List.drop_eq_nil_of_le (by simp; omega)]; rfl
  cases hfn : f.n with
  | nil => exact br_nd (by show ¬ (((([] : List UInt8).length : Nat) : Int) > 0); simp) (no (by rw [hfn]; rfl))
  | cons c r =>
    refine br_dec (by show (((c :: r).length : Nat) : Int) > 0; rw [List.length_cons]; omega) (br_dec (by omega) (br_dec (by show (0 : Int) ≤ 0 ∧ (0 : Int) < ((c :: r).length : Nat); exact ⟨Int.le_refl _, by rw [List.length_cons]; omega⟩) ?_))
    rw [byteAt_bs (l := c :: r) (i := 0) (by simp)]
    simp only [List.getElem_cons_zero]
    refine br_intro (fun k => yes ?_) (fun k => no ?_)
    · rw [hfn]; simp at k; show (c == 58) = true
      rw [beq_iff_eq]; exact (u8_nat (n := 58) (by omega)).1 k
    · rw [hfn]; simp at k; show (c == 58) = false
      rw [beq_eq_false_iff_ne]; rintro rfl; exact k rfl
theorem Rba_con (l : List Fl) (h : l.length ≤ maxLen) : Con Try.prog 17 [.slice (some ⟨0, 0, none⟩) l.length 2] [gRo enF l] (.tuple #[.int .i64 (psN l : Nat), .bool (baB l)]) [gRo enF l] := by
  refine con_vc (E := E0) mixed (calls_envN _) (lok_envN _) (M := mRba) (lm_one Rba_piece) (Rba_vc l _ _) ?_
  have hm : maxLen = 9223372036854775807 := by unfold maxLen; rfl
  simp only [ofNat_eq, toNat_cast, Nat.zero_add, Nat.add_zero, Nat.mul_one, List.drop_zero, bCells_len, bCells_drop, bCells_take, bCells_app, bCells_one, bCells_plain, List.length_replicate, List.length_append, List.length_take, List.length_drop, List.take_length, and_true, true_and, and_self, decide_true, List.length_nil, List.length_cons, Nat.sub_zero, dB_mk, dB_ro, List.take_zero, fPl, bs_dd]
  exact ⟨l, by omega, rfl, rfl, br_side (fun y hy => ⟨rfl, hy, rfl⟩) (fun y hy => ⟨rfl, hy, rfl⟩)⟩
theorem eRba_ok : EntOk Try.prog eRba := entC_ok (by
  intro a rows p v news h hp
  split at h <;> simp only [Option.some.injEq, Prod.mk.injEq, reduceCtorEq] at h
  obtain ⟨rfl, rfl, rfl⟩ := h
  obtain ⟨⟨l, rfl, rfl⟩, h1⟩ := hp
  simp only [psR, baR, dF, List.append_nil]
  exact Rba_con l h1)
end Go.Proofs.Yteodlmfnkjdhhaa.tk
