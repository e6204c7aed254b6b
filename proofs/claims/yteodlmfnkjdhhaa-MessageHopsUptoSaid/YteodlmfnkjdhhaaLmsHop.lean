/- Fields that are not for one hop. -/
import Derived.Test.YteodlmfnkjdhhaaSz9
import Derived.Test.YteodlmfnkjdhhaaRows
import Derived.Test.YteodlmfnkjdhhaaLmsBase
import Derived.Test.YteodlmfnkjdhhaaLtkEnts
set_option linter.unusedSimpArgs false
set_option linter.unusedVariables false
namespace Go.Proofs.Yteodlmfnkjdhhaa.tk
open Go Go.Ev Go.Sy Go.RowKit Go.Proofs.Yteodlmfnkjdhhaa.gl
def hasL (ps : List (List UInt8)) (n : List UInt8) : Bool := ps.any fun p => decide (p = n)
def liB (r : Row) (s : ByteArray) : Bool := hasL (decS r.cells) (L s)
def hpP (ps : List (List UInt8)) (f : Fl) : Bool := !ocL f.n && (!decide (f.n = sTe) && !hasL ps f.n)
def hpN (l : List Fl) : List (List UInt8) := (elSp (allL l sConn)).map lowerL
def hopL (l : List Fl) : List Fl := l.filter (hpP (hpN l))
def hpC (r : Row) : List Value := gC enF (hopL (decF r.cells))
def hpK (r : Row) : Nat := (hopL (decF r.cells)).length
def hpB (r : Row) : Nat := 3 * lgN (decF r.cells)
/- listed -/
def pLi : List Nat := [0, 1, 0, 1]
structure GLi where
  ps : List (List UInt8)
  s : List UInt8
def slLi (g : GLi) (i : Nat) : List (Nat × Value) := [(1, .string (bs g.s)), (7, .slice (some ⟨0, 0, none⟩) g.ps.length 1), (8, .int .i64 (g.ps.length : Nat)), (9, .int .i64 (i : Nat))]
def rlLi (g : GLi) : List (Nat × Row) := [(0, gRo enS g.ps)]
def wsLi (g : GLi) : List (Gate Unit) := [⟨.exit 0, fun _ => hasL g.ps g.s = false, fun _ => [], fun _ => rlLi g, 1⟩, ⟨.ret, fun _ => hasL g.ps g.s = true, fun _ => [(4, .bool true)], fun _ => rlLi g, 1⟩]
def specLi : Sy.Spec := specOf 1 1 17 (fun g : GLi => g.ps.length ≤ maxLen) (fun g => slLi g 0) rlLi wsLi
def mLi := mOf [(47, pLi, specLi)]
noncomputable def eLi : EntM := entC 47 fun a r => match a, r with
  | [.slice (some ⟨0, 0, none⟩) n 1, .string s], [r0] => some (IsS r0 n ∧ n ≤ maxLen, .bool (liB r0 s), [])
  | _, _ => none
noncomputable def eOch : EntM := entC 46 fun a r => match a, r with
  | [.string s], [] => some (True, .bool (ocS s), [])
  | _, _ => none
noncomputable def eHop : EntM := entC 25 fun a r => match a, r with
  | [.slice (some ⟨0, 0, none⟩) n 2], [r0] => some (IsF r0 n ∧ n ≤ 16777000 ∧ hpB r0 ≤ 16777000, .slice (some ⟨1, 0, none⟩) (hpK r0) 2, [⟨hpC r0, false, .cells true⟩])
  | _, _ => none
noncomputable def tHp : List EntM := [eAl, eSp, eLw, eLi, eOch]
noncomputable abbrev EtHp : Env := envT Try.prog tHp
def pH1 : List Nat := [0, 1, 0, 1, 1, 1]
def pH2 : List Nat := [0, 1, 0, 1, 1, 1, 1, 1]
structure GHp where
  l : List Fl
  ps : List (List UInt8)
def rowHp (g : GHp) (i : Nat) : List (List UInt8) := (g.ps.take i).map lowerL ++ g.ps.drop i
def slH1 (g : GHp) (i : Nat) : List (Nat × Value) := [(0, .slice (some ⟨0, 0, none⟩) g.l.length 2), (5, .slice (some ⟨1, 0, none⟩) g.ps.length 1), (22, .slice (some ⟨1, 0, none⟩) g.ps.length 1), (23, .int .i64 (g.ps.length : Nat)), (24, .int .i64 (i : Nat))]
def rlH1 (g : GHp) (i : Nat) : List (Nat × Row) := [(0, gRo enF g.l), (1, gOwn enS (rowHp g i))]
def wsH1 (g : GHp) : List (Gate Unit) := [⟨.exit 0, fun _ => True, fun _ => [(0, .slice (some ⟨0, 0, none⟩) g.l.length 2), (5, .slice (some ⟨1, 0, none⟩) g.ps.length 1)], fun _ => [(0, gRo enF g.l), (1, gOwn enS (g.ps.map lowerL))], 2⟩]
def specH1 : Sy.Spec := specOf 1 2 63 (fun g : GHp => g.ps.length ≤ 16777216 ∧ ∀ x ∈ g.ps, x.length ≤ 16777216) (fun g => slH1 g 0) (fun g => rlH1 g 0) wsH1
structure StH where
  acc : List Fl
  i : Nat
def slH2 (g : GHp) (s : StH) : List (Nat × Value) := [(5, .slice (some ⟨1, 0, none⟩) g.ps.length 1), (9, .slice (some ⟨2, 0, none⟩) s.acc.length 2), (35, .slice (some ⟨0, 0, none⟩) g.l.length 2), (36, .int .i64 (g.l.length : Nat)), (37, .int .i64 (s.i : Nat))]
def rlH2 (g : GHp) (s : StH) : List (Nat × Row) := [(0, gRo enF g.l), (1, gOwn enS g.ps), (2, gOwn enF s.acc)]
def wsH2 (g : GHp) : List (Gate Unit) := [⟨.exit 2, fun _ => True, fun _ => [(9, .slice (some ⟨1, 0, none⟩) (g.l.filter (hpP g.ps)).length 2)], fun _ => [(0, gRo enF g.l), (1, gOwn enF (g.l.filter (hpP g.ps)))], 2⟩]
def specH2 : Sy.Spec := specOf 1 3 63 (fun g : GHp => g.ps.length ≤ 16777216 ∧ g.l.length ≤ 16777000) (fun g => slH2 g ⟨[], 0⟩) (fun g => rlH2 g ⟨[], 0⟩) wsH2
def mHp := mOf [(25, pH1, specH1), (25, pH2, specH2)]
theorem Li_round (g : GLi) (i : Nat) (Inv : Nat → Prop) (m : Nat → Nat) : mev E0 noM 60 47 (0 :: pLi) false (codeOf Try.prog 47 (0 :: pLi)) ⟨mkOv (slLi g i), 17, []⟩ none ⟨mkR (rlLi g), 1⟩ (roundK 1 1 17 Inv m (slLi g) (fun _ => rlLi g) (wsLi g) i) =
  (br (decide ((↑i : Int) < (↑(List.length g.1) : Int)))
   (br (decide ((0 : Int) ≤ (↑i : Int) ∧ (↑i : Int) < (↑(List.length g.1) : Int)))
    ((Eq (α := Option Value) ((gC enS g.1)[(0 : Nat) + Int.toNat (↑i : Int) * (1 : Nat)]?) (some (Value.string (cellS (gC enS g.1) ((0 : Nat) + Int.toNat (↑i : Int) * (1 : Nat)))))) ∧
    (br (strEq (cellS (gC enS g.1) ((0 : Nat) + Int.toNat (↑i : Int) * (1 : Nat))) (bs g.2))
     (∃ y : Unit, ((hasL g.1 g.2 = true) ∧
     ((true = true) ∧
     ((Eq (α := List Value) (gC enS g.1) (gC enS g.1)) ∧
     ((Plain (gC enS g.1)) ∧
     True)))))
     (∃ j : Nat, ((Inv j) ∧
     ((m j < m i) ∧
     ((bs g.2 = bs g.2) ∧
     (((0 : Nat) = (0 : Nat)) ∧
     ((List.length g.1 = List.length g.1) ∧
     (((↑(List.length g.1) : Int) = (↑(List.length g.1) : Int)) ∧
     (((↑j : Int) = IntKind.wrap IntKind.i64 ((↑i : Int) + (1 : Int))) ∧
     ((Eq (α := List Value) (gC enS g.1) (gC enS g.1)) ∧
     ((Plain (gC enS g.1)) ∧
     True))))))))))))
    False)
   (∃ y : Unit, ((hasL g.1 g.2 = false) ∧
   ((Eq (α := List Value) (gC enS g.1) (gC enS g.1)) ∧
   ((Plain (gC enS g.1)) ∧
   True))))) := by kernel_rfl
theorem Li_vc (ps : List (List UInt8)) (s : List UInt8) : mcall E0 mLi 60 47 [.slice (some ⟨0, 0, none⟩) ps.length 1, .string (bs s)] ⟨mkR (nums 0 [gRo enS ps]), 1⟩ (retIs 1 (.bool (hasL ps s)) [gRo enS ps]) =
  (∃ g : GLi, ((List.length g.1 ≤ (9223372036854775807 : Nat)) ∧
  ((bs g.2 = bs s) ∧
  (((0 : Nat) = (0 : Nat)) ∧
  ((List.length g.1 = List.length ps) ∧
  (((↑(List.length g.1) : Int) = Int.ofNat (List.length ps)) ∧
  (((0 : Int) = (0 : Int)) ∧
  ((Eq (α := List Value) (gC enS g.1) (gC enS ps)) ∧
  ((Plain (gC enS g.1)) ∧
  (∀ (side : Bool), (br (side)
   (∀ (y : Unit), ((hasL g.1 g.2 = false) →
   ((hasL ps s = false) ∧
   ((Eq (α := List Value) (gC enS ps) (gC enS g.1)) ∧
   ((Plain (gC enS ps)) ∧
   True)))))
   (∀ (y : Unit), ((hasL g.1 g.2 = true) →
   ((hasL ps s = true) ∧
   ((Eq (α := List Value) (gC enS ps) (gC enS g.1)) ∧
   ((Plain (gC enS ps)) ∧
   True)))))))))))))))) := by kernel_rfl
theorem Och_vc (s : List UInt8) : mcall E0 noM 60 46 [.string (bs s)] ⟨mkR (nums 0 []), 0⟩ (retIs 0 (.bool (ocL s)) []) =
  (br (strEq (bs s) (ByteArray.mk #[(99 : UInt8), (111 : UInt8), (110 : UInt8), (110 : UInt8), (101 : UInt8), (99 : UInt8), (116 : UInt8), (105 : UInt8), (111 : UInt8), (110 : UInt8)]))
   ((ocL s = true) ∧
   True)
   (br (strEq (bs s) (ByteArray.mk #[(112 : UInt8), (114 : UInt8), (111 : UInt8), (120 : UInt8), (121 : UInt8), (45 : UInt8), (99 : UInt8), (111 : UInt8), (110 : UInt8), (110 : UInt8), (101 : UInt8), (99 : UInt8), (116 : UInt8), (105 : UInt8), (111 : UInt8), (110 : UInt8)]))
    ((ocL s = true) ∧
    True)
    (br (strEq (bs s) (ByteArray.mk #[(107 : UInt8), (101 : UInt8), (101 : UInt8), (112 : UInt8), (45 : UInt8), (97 : UInt8), (108 : UInt8), (105 : UInt8), (118 : UInt8), (101 : UInt8)]))
     ((ocL s = true) ∧
     True)
     (br (strEq (bs s) (ByteArray.mk #[(116 : UInt8), (114 : UInt8), (97 : UInt8), (110 : UInt8), (115 : UInt8), (102 : UInt8), (101 : UInt8), (114 : UInt8), (45 : UInt8), (101 : UInt8), (110 : UInt8), (99 : UInt8), (111 : UInt8), (100 : UInt8), (105 : UInt8), (110 : UInt8), (103 : UInt8)]))
      ((ocL s = true) ∧
      True)
      (br (strEq (bs s) (ByteArray.mk #[(117 : UInt8), (112 : UInt8), (103 : UInt8), (114 : UInt8), (97 : UInt8), (100 : UInt8), (101 : UInt8)]))
       ((ocL s = true) ∧
       True)
       ((ocL s = false) ∧
       True)))))) := by kernel_rfl
theorem H1_round (g : GHp) (i : Nat) (Inv : Nat → Prop) (m : Nat → Nat) : mev EtHp noM 60 25 (0 :: pH1) false (codeOf Try.prog 25 (0 :: pH1)) ⟨mkOv (slH1 g i), 63, []⟩ none ⟨mkR (rlH1 g i), 2⟩ (roundK 1 2 63 Inv m (slH1 g) (rlH1 g) (wsH1 g) i) =
  (br (decide ((↑i : Int) < (↑(List.length g.2) : Int)))
   (br (decide ((0 : Int) ≤ (↑i : Int) ∧ (↑i : Int) < (↑(List.length g.2) : Int)))
    ((Eq (α := Option Value) ((gC enS (rowHp g i))[(0 : Nat) + Int.toNat (↑i : Int) * (1 : Nat)]?) (some (Value.string (cellS (gC enS (rowHp g i)) ((0 : Nat) + Int.toNat (↑i : Int) * (1 : Nat)))))) ∧
    ((((True ∧ True) ∧ (True ∧ (True ∧ List.length (L (cellS (gC enS (rowHp g i)) ((0 : Nat) + Int.toNat (↑i : Int) * (1 : Nat)))) ≤ (9223372036854775807 : Nat))))) ∧
    (br (decide ((0 : Int) ≤ (↑i : Int) ∧ (↑i : Int) < (↑(List.length g.2) : Int)))
     (br (decide ((0 : Nat) + Int.toNat (↑i : Int) * (1 : Nat) + (1 : Nat) ≤ List.length (gC enS (rowHp g i))))
      (∃ j : Nat, ((Inv j) ∧
      ((m j < m i) ∧
      (((0 : Nat) = (0 : Nat)) ∧
      ((List.length g.1 = List.length g.1) ∧
      (((0 : Nat) = (0 : Nat)) ∧
      ((List.length g.2 = List.length g.2) ∧
      (((0 : Nat) = (0 : Nat)) ∧
      ((List.length g.2 = List.length g.2) ∧
      (((↑(List.length g.2) : Int) = (↑(List.length g.2) : Int)) ∧
      (((↑j : Int) = IntKind.wrap IntKind.i64 ((↑i : Int) + (1 : Int))) ∧
      ((Eq (α := List Value) (gC enF g.1) (gC enF g.1)) ∧
      ((Plain (gC enF g.1)) ∧
      ((Eq (α := List Value) (gC enS (rowHp g j)) (ovr (gC enS (rowHp g i)) ((0 : Nat) + Int.toNat (↑i : Int) * (1 : Nat)) [Value.string (lowS (cellS (gC enS (rowHp g i)) ((0 : Nat) + Int.toNat (↑i : Int) * (1 : Nat))))])) ∧
      ((Plain (gC enS (rowHp g j))) ∧
      True)))))))))))))))
      False)
     False)))
    False)
   (∃ y : Unit, ((True) ∧
   (((0 : Nat) = (0 : Nat)) ∧
   ((List.length g.1 = List.length g.1) ∧
   (((0 : Nat) = (0 : Nat)) ∧
   ((List.length g.2 = List.length g.2) ∧
   ((Eq (α := List Value) (gC enF g.1) (gC enF g.1)) ∧
   ((Plain (gC enF g.1)) ∧
   ((Eq (α := List Value) (gC enS (List.map lowerL g.2)) (gC enS (rowHp g i))) ∧
   ((Plain (gC enS (List.map lowerL g.2))) ∧
   True))))))))))) := by kernel_rfl
theorem H2_round (g : GHp) (s : StH) (Inv : StH → Prop) (m : StH → Nat) : mev EtHp noM 60 25 (0 :: pH2) false (codeOf Try.prog 25 (0 :: pH2)) ⟨mkOv (slH2 g s), 63, []⟩ none ⟨mkR (rlH2 g s), 3⟩ (roundK 1 3 63 Inv m (slH2 g) (rlH2 g) (wsH2 g) s) =
  (br (decide ((↑s.2 : Int) < (↑(List.length g.1) : Int)))
   (br (decide ((0 : Int) ≤ (↑s.2 : Int) ∧ (↑s.2 : Int) < (↑(List.length g.1) : Int)))
    ((Eq (α := Option Value) ((gC enF g.1)[(0 : Nat) + Int.toNat (↑s.2 : Int) * (2 : Nat)]?) (some (Value.string (cellS (gC enF g.1) ((0 : Nat) + Int.toNat (↑s.2 : Int) * (2 : Nat)))))) ∧
    ((Eq (α := Option Value) ((gC enF g.1)[(0 : Nat) + Int.toNat (↑s.2 : Int) * (2 : Nat) + (1 : Nat)]?) (some (Value.string (cellS (gC enF g.1) ((0 : Nat) + Int.toNat (↑s.2 : Int) * (2 : Nat) + (1 : Nat)))))) ∧
    ((((True ∧ True) ∧ (True ∧ (True ∧ True)))) ∧
    (br (!ocS (cellS (gC enF g.1) ((0 : Nat) + Int.toNat (↑s.2 : Int) * (2 : Nat))))
     (br (!strEq (cellS (gC enF g.1) ((0 : Nat) + Int.toNat (↑s.2 : Int) * (2 : Nat))) (ByteArray.mk #[(116 : UInt8), (101 : UInt8)]))
      ((((((0 : Nat) + List.length g.2 * (1 : Nat) ≤ List.length (gC enS g.2) ∧ Plain (List.take (List.length g.2 * (1 : Nat)) (List.drop (0 : Nat) (gC enS g.2)))) ∧ (True ∧ True)) ∧ ((True ∧ True) ∧ (True ∧ (IsS (Row.mk (List.take (List.length g.2 * (1 : Nat)) (List.drop (0 : Nat) (gC enS g.2))) true (Ob.cells true)) (List.length g.2) ∧ List.length g.2 ≤ (9223372036854775807 : Nat)))))) ∧
      (br (!liB (Row.mk (List.take (List.length g.2 * (1 : Nat)) (List.drop (0 : Nat) (gC enS g.2))) true (Ob.cells true)) (cellS (gC enF g.1) ((0 : Nat) + Int.toNat (↑s.2 : Int) * (2 : Nat))))
       (br (decide (List.length s.1 + (1 : Nat) ≤ (16777216 : Nat)))
        (br (decide ((0 : Nat) + List.length s.1 * (2 : Nat) ≤ List.length (gC enF s.1)))
         (∃ j : StH, ((Inv j) ∧
         ((m j < m s) ∧
         (((0 : Nat) = (0 : Nat)) ∧
         ((List.length g.2 = List.length g.2) ∧
         (((0 : Nat) = (0 : Nat)) ∧
         ((List.length j.1 = List.length s.1 + (1 : Nat)) ∧
         (((0 : Nat) = (0 : Nat)) ∧
         ((List.length g.1 = List.length g.1) ∧
         (((↑(List.length g.1) : Int) = (↑(List.length g.1) : Int)) ∧
         (((↑j.2 : Int) = IntKind.wrap IntKind.i64 ((↑s.2 : Int) + (1 : Int))) ∧
         ((Eq (α := List Value) (gC enF g.1) (gC enF g.1)) ∧
         ((Plain (gC enF g.1)) ∧
         ((Eq (α := List Value) (gC enS g.2) (gC enS g.2)) ∧
         ((Plain (gC enS g.2)) ∧
         ((Eq (α := List Value) (gC enF j.1) (List.take (List.length s.1 * (2 : Nat)) (List.drop (0 : Nat) (gC enF s.1)) ++ [Value.string (cellS (gC enF g.1) ((0 : Nat) + Int.toNat (↑s.2 : Int) * (2 : Nat))), Value.string (cellS (gC enF g.1) ((0 : Nat) + Int.toNat (↑s.2 : Int) * (2 : Nat) + (1 : Nat)))])) ∧
         ((Plain (gC enF j.1)) ∧
         True)))))))))))))))))
         False)
        False)
       (∃ j : StH, ((Inv j) ∧
       ((m j < m s) ∧
       (((0 : Nat) = (0 : Nat)) ∧
       ((List.length g.2 = List.length g.2) ∧
       (((0 : Nat) = (0 : Nat)) ∧
       ((List.length j.1 = List.length s.1) ∧
       (((0 : Nat) = (0 : Nat)) ∧
       ((List.length g.1 = List.length g.1) ∧
       (((↑(List.length g.1) : Int) = (↑(List.length g.1) : Int)) ∧
       (((↑j.2 : Int) = IntKind.wrap IntKind.i64 ((↑s.2 : Int) + (1 : Int))) ∧
       ((Eq (α := List Value) (gC enF g.1) (gC enF g.1)) ∧
       ((Plain (gC enF g.1)) ∧
       ((Eq (α := List Value) (gC enS g.2) (gC enS g.2)) ∧
       ((Plain (gC enS g.2)) ∧
       ((Eq (α := List Value) (gC enF j.1) (gC enF s.1)) ∧
       ((Plain (gC enF j.1)) ∧
       True)))))))))))))))))))
      (∃ j : StH, ((Inv j) ∧
      ((m j < m s) ∧
      (((0 : Nat) = (0 : Nat)) ∧
      ((List.length g.2 = List.length g.2) ∧
      (((0 : Nat) = (0 : Nat)) ∧
      ((List.length j.1 = List.length s.1) ∧
      (((0 : Nat) = (0 : Nat)) ∧
      ((List.length g.1 = List.length g.1) ∧
      (((↑(List.length g.1) : Int) = (↑(List.length g.1) : Int)) ∧
      (((↑j.2 : Int) = IntKind.wrap IntKind.i64 ((↑s.2 : Int) + (1 : Int))) ∧
      ((Eq (α := List Value) (gC enF g.1) (gC enF g.1)) ∧
      ((Plain (gC enF g.1)) ∧
      ((Eq (α := List Value) (gC enS g.2) (gC enS g.2)) ∧
      ((Plain (gC enS g.2)) ∧
      ((Eq (α := List Value) (gC enF j.1) (gC enF s.1)) ∧
      ((Plain (gC enF j.1)) ∧
      True))))))))))))))))))
     (∃ j : StH, ((Inv j) ∧
     ((m j < m s) ∧
     (((0 : Nat) = (0 : Nat)) ∧
     ((List.length g.2 = List.length g.2) ∧
     (((0 : Nat) = (0 : Nat)) ∧
     ((List.length j.1 = List.length s.1) ∧
     (((0 : Nat) = (0 : Nat)) ∧
     ((List.length g.1 = List.length g.1) ∧
     (((↑(List.length g.1) : Int) = (↑(List.length g.1) : Int)) ∧
     (((↑j.2 : Int) = IntKind.wrap IntKind.i64 ((↑s.2 : Int) + (1 : Int))) ∧
     ((Eq (α := List Value) (gC enF g.1) (gC enF g.1)) ∧
     ((Plain (gC enF g.1)) ∧
     ((Eq (α := List Value) (gC enS g.2) (gC enS g.2)) ∧
     ((Plain (gC enS g.2)) ∧
     ((Eq (α := List Value) (gC enF j.1) (gC enF s.1)) ∧
     ((Plain (gC enF j.1)) ∧
     True)))))))))))))))))))))
    False)
   (∃ y : Unit, ((True) ∧
   (((0 : Nat) = (0 : Nat)) ∧
   ((List.length (List.filter (hpP (GHp.ps g)) g.1) = List.length s.1) ∧
   ((Eq (α := List Value) (gC enF g.1) (gC enF g.1)) ∧
   ((Plain (gC enF g.1)) ∧
   ((Eq (α := List Value) (gC enF (List.filter (hpP (GHp.ps g)) g.1)) (gC enF s.1)) ∧
   ((Plain (gC enF (List.filter (hpP (GHp.ps g)) g.1))) ∧
   True))))))))) := by kernel_rfl
theorem Hp_vc (l : List Fl) : mcall EtHp mHp 60 25 [.slice (some ⟨0, 0, none⟩) l.length 2] ⟨mkR (nums 0 [gRo enF l]), 1⟩ (retIs 1 (.slice (some ⟨1, 0, none⟩) (hopL l).length 2) [gRo enF l, gOwn enF (hopL l)]) =
  ((((((0 : Nat) + List.length l * (2 : Nat) ≤ List.length (gC enF l) ∧ Plain (List.take (List.length l * (2 : Nat)) (List.drop (0 : Nat) (gC enF l)))) ∧ (True ∧ True)) ∧ ((True ∧ True) ∧ (True ∧ (IsF (Row.mk (List.take (List.length l * (2 : Nat)) (List.drop (0 : Nat) (gC enF l))) true (Ob.cells true)) (List.length l) ∧ (List.length l ≤ (9223372036854775807 : Nat) ∧ alB (Row.mk (List.take (List.length l * (2 : Nat)) (List.drop (0 : Nat) (gC enF l))) true (Ob.cells true)) (ByteArray.mk #[(99 : UInt8), (111 : UInt8), (110 : UInt8), (110 : UInt8), (101 : UInt8), (99 : UInt8), (116 : UInt8), (105 : UInt8), (111 : UInt8), (110 : UInt8)]) ≤ (16777216 : Nat))))))) ∧
  ((((True ∧ True) ∧ (True ∧ ((Plain (elC (alV (Row.mk (List.take (List.length l * (2 : Nat)) (List.drop (0 : Nat) (gC enF l))) true (Ob.cells true)) (ByteArray.mk #[(99 : UInt8), (111 : UInt8), (110 : UInt8), (110 : UInt8), (101 : UInt8), (99 : UInt8), (116 : UInt8), (105 : UInt8), (111 : UInt8), (110 : UInt8)]))) ∧ True) ∧ List.length (L (alV (Row.mk (List.take (List.length l * (2 : Nat)) (List.drop (0 : Nat) (gC enF l))) true (Ob.cells true)) (ByteArray.mk #[(99 : UInt8), (111 : UInt8), (110 : UInt8), (110 : UInt8), (101 : UInt8), (99 : UInt8), (116 : UInt8), (105 : UInt8), (111 : UInt8), (110 : UInt8)]))) ≤ (16777000 : Nat))))) ∧
  (∃ g : GHp, ((List.length g.2 ≤ (16777216 : Nat) ∧ ∀ (x : List UInt8), x ∈ GHp.ps g → List.length x ≤ (16777216 : Nat)) ∧
  (((0 : Nat) = (0 : Nat)) ∧
  ((List.length g.1 = List.length l) ∧
  (((0 : Nat) = (0 : Nat)) ∧
  ((List.length g.2 = elN (alV (Row.mk (List.take (List.length l * (2 : Nat)) (List.drop (0 : Nat) (gC enF l))) true (Ob.cells true)) (ByteArray.mk #[(99 : UInt8), (111 : UInt8), (110 : UInt8), (110 : UInt8), (101 : UInt8), (99 : UInt8), (116 : UInt8), (105 : UInt8), (111 : UInt8), (110 : UInt8)]))) ∧
  (((0 : Nat) = (0 : Nat)) ∧
  ((List.length g.2 = elN (alV (Row.mk (List.take (List.length l * (2 : Nat)) (List.drop (0 : Nat) (gC enF l))) true (Ob.cells true)) (ByteArray.mk #[(99 : UInt8), (111 : UInt8), (110 : UInt8), (110 : UInt8), (101 : UInt8), (99 : UInt8), (116 : UInt8), (105 : UInt8), (111 : UInt8), (110 : UInt8)]))) ∧
  (((↑(List.length g.2) : Int) = Int.ofNat (elN (alV (Row.mk (List.take (List.length l * (2 : Nat)) (List.drop (0 : Nat) (gC enF l))) true (Ob.cells true)) (ByteArray.mk #[(99 : UInt8), (111 : UInt8), (110 : UInt8), (110 : UInt8), (101 : UInt8), (99 : UInt8), (116 : UInt8), (105 : UInt8), (111 : UInt8), (110 : UInt8)])))) ∧
  (((0 : Int) = (0 : Int)) ∧
  ((Eq (α := List Value) (gC enF g.1) (gC enF l)) ∧
  ((Plain (gC enF g.1)) ∧
  ((Eq (α := List Value) (gC enS (rowHp g (0 : Nat))) (elC (alV (Row.mk (List.take (List.length l * (2 : Nat)) (List.drop (0 : Nat) (gC enF l))) true (Ob.cells true)) (ByteArray.mk #[(99 : UInt8), (111 : UInt8), (110 : UInt8), (110 : UInt8), (101 : UInt8), (99 : UInt8), (116 : UInt8), (105 : UInt8), (111 : UInt8), (110 : UInt8)])))) ∧
  ((Plain (gC enS (rowHp g (0 : Nat)))) ∧
  (∀ (y : Unit), ((True) →
  (∃ g2 : GHp, ((List.length g2.2 ≤ (16777216 : Nat) ∧ List.length g2.1 ≤ (16777000 : Nat)) ∧
  (((0 : Nat) = (0 : Nat)) ∧
  ((List.length g2.2 = List.length g.2) ∧
  (((0 : Nat) = (0 : Nat)) ∧
  (((0 : Nat) = (0 : Nat)) ∧
  ((List.length g2.1 = List.length g.1) ∧
  (((↑(List.length g2.1) : Int) = Int.ofNat (List.length g.1)) ∧
  (((0 : Int) = (0 : Int)) ∧
  ((Eq (α := List Value) (gC enF g2.1) (gC enF g.1)) ∧
  ((Plain (gC enF g2.1)) ∧
  ((Eq (α := List Value) (gC enS g2.2) (gC enS (List.map lowerL g.2))) ∧
  ((Plain (gC enS g2.2)) ∧
  ((Eq (α := List Value) ([]) ([])) ∧
  (∀ (y2 : Unit), ((True) →
  (((0 : Nat) = (0 : Nat)) ∧
  ((List.length (hopL l) = List.length (List.filter (hpP (GHp.ps g2)) g2.1)) ∧
  ((Eq (α := List Value) (gC enF l) (gC enF g2.1)) ∧
  ((Plain (gC enF l)) ∧
  ((Eq (α := List Value) (gC enF (hopL l)) (gC enF (List.filter (hpP (GHp.ps g2)) g2.1))) ∧
  ((Plain (gC enF (hopL l))) ∧
  True)))))))))))))))))))))))))))))))))))))))) := by kernel_rfl
theorem hasL_app (a b : List (List UInt8)) (n : List UInt8) : hasL (a ++ b) n = (hasL a n || hasL b n) := by unfold hasL; rw [List.any_append]
theorem n_li (l : List (List UInt8)) (b : Bool) (o : Ob) (s : List UInt8) : liB ⟨gC enS l, b, o⟩ (bs s) = hasL l s := by unfold liB; simp only; rw [decS_gC, L_bs]
theorem Li_piece : PieceOk E0 1 (47, pLi, specLi) := by
  refine piece_loop mixed (calls_envN _) (lok_envN _) lm_none (n := 60) (by kernel_rfl) (fun _ : GLi => (0 : Nat)) (fun g i => i ≤ g.ps.length ∧ hasL (g.ps.take i) g.s = false) (fun g i => g.ps.length - i) (sl := slLi) (rl := fun g _ => rlLi g) (fun g hg => ⟨Nat.zero_le _, rfl⟩) (fun g i hg hi => ?_)
  refine (Li_round g i _ _).mpr ?_
  obtain ⟨ps, s⟩ := g
  have hg' : ps.length ≤ 9223372036854775807 := by have hm : maxLen = 9223372036854775807 := by { unfold maxLen; rfl }; rw [← hm]; exact hg
  obtain ⟨h1, h2⟩ := hi
  simp only at h1 h2
  simp only [ofNat_eq, toNat_cast, Nat.zero_add, Nat.add_zero, Nat.mul_one, List.drop_zero, bCells_len, bCells_drop, bCells_take, bCells_app, bCells_one, bCells_plain, List.length_replicate, List.length_append, List.length_take, List.length_drop, List.take_length, and_true, true_and, and_self, decide_true, List.length_nil, List.length_cons, Nat.sub_zero, dB_mk, dB_ro, List.take_zero, sPl, sLen]
  refine br_if (fun h => br_dec (by omega) ?_) (fun h => ⟨(), by rw [List.take_of_length_le (by omega)] at h2; exact h2⟩)
  have hi : i < ps.length := by omega
  obtain ⟨c1, c2⟩ := sGet ps i hi
  have w := i64_succ (show i < 9223372036854775807 by omega)
  have ht : ps.take (i + 1) = ps.take i ++ [ps[i]] := List.take_succ_eq_append_getElem hi
  simp only [c1, c2, w, strEq_bs, true_and, mk_bs, bs_d]
  refine br_if (fun k => ⟨(), ?_⟩) (fun k => ⟨i + 1, ⟨by omega, ?_⟩, by omega, rfl⟩)
  · rw [show ps = ps.take i ++ ps[i] :: ps.drop (i + 1) by rw [← List.drop_eq_getElem_cons hi, List.take_append_drop], hasL_app]
    unfold hasL
    rw [List.any_cons, decide_eq_true k]; simp
  · rw [ht, hasL_app, h2]
    unfold hasL; simp [k]
theorem Li_con (ps : List (List UInt8)) (s : List UInt8) (hl : ps.length ≤ maxLen) : Con Try.prog 47 [.slice (some ⟨0, 0, none⟩) ps.length 1, .string (bs s)] [gRo enS ps] (.bool (hasL ps s)) [gRo enS ps] := by
  refine con_vc (E := E0) mixed (calls_envN _) (lok_envN _) (M := mLi) (lm_one Li_piece) (Li_vc ps s) ?_
  have hm : maxLen = 9223372036854775807 := by unfold maxLen; rfl
  rw [hm] at hl
  simp only [ofNat_eq, toNat_cast, Nat.zero_add, Nat.add_zero, Nat.mul_one, List.drop_zero, bCells_len, bCells_drop, bCells_take, bCells_app, bCells_one, bCells_plain, List.length_replicate, List.length_append, List.length_take, List.length_drop, List.take_length, and_true, true_and, and_self, decide_true, List.length_nil, List.length_cons, Nat.sub_zero, dB_mk, dB_ro, List.take_zero, sPl]
  exact ⟨⟨ps, s⟩, hl, rfl, rfl, rfl, rfl, br_side (fun _ h => ⟨h, rfl⟩) (fun _ h => ⟨h, rfl⟩)⟩
theorem Och_con (s : List UInt8) : Con Try.prog 46 [.string (bs s)] [] (.bool (ocL s)) [] := by
  refine con_vc (E := E0) mixed (calls_envN _) (lok_envN _) (M := noM) lm_none (Och_vc s) ?_
  simp only [ofNat_eq, toNat_cast, Nat.zero_add, Nat.add_zero, Nat.mul_one, List.drop_zero, bCells_len, bCells_drop, bCells_take, bCells_app, bCells_one, bCells_plain, List.length_replicate, List.length_append, List.length_take, List.length_drop, List.take_length, and_true, true_and, and_self, decide_true, List.length_nil, List.length_cons, Nat.sub_zero, dB_mk, dB_ro, List.take_zero, bs_dd, mk_bs, strEq_bs]
  refine br_intro (fun h1 => ?_) (fun h1 => br_intro (fun h2 => ?_) (fun h2 => br_intro (fun h3 => ?_) (fun h3 => br_intro (fun h4 => ?_) (fun h4 => br_intro (fun h5 => ?_) (fun h5 => ?_)))))
  all_goals (unfold ocL; simp only [sConn, sPConn, sKeep, sTrEn, sUpg]; simp_all)
theorem eLi_ok : EntOk Try.prog eLi := entC_ok (by
  intro a rows p v news h hp
  split at h <;> simp only [Option.some.injEq, Prod.mk.injEq, reduceCtorEq] at h
  obtain ⟨rfl, rfl, rfl⟩ := h
  obtain ⟨⟨l, rfl, rfl⟩, h1⟩ := hp
  simp only [liB, show ∀ l : List (List UInt8), decS (gRo enS l).cells = l from fun l => decS_gC l, List.append_nil]
  exact Li_con l (L _) h1)
theorem eOch_ok : EntOk Try.prog eOch := entC_ok (by
  intro a rows p v news h hp
  split at h <;> simp only [Option.some.injEq, Prod.mk.injEq, reduceCtorEq] at h
  obtain ⟨rfl, rfl, rfl⟩ := h
  exact Och_con (L _))
theorem tHp_ok : ∀ x ∈ tHp, EntOk Try.prog x := all_cons eAl_ok (all_cons eSp_ok (all_cons eLw_ok (all_cons eLi_ok (all_cons eOch_ok (all_nil)))))
theorem H1_piece : PieceOk EtHp 1 (25, pH1, specH1) := by
  refine piece_loop mixed (calls_envT tHp_ok) (lok_envT _ _) lm_none (n := 60) (by kernel_rfl) (fun g : GHp => (0 : Nat)) (fun g i => i ≤ g.ps.length) (fun g i => g.ps.length - i) (sl := slH1) (rl := rlH1) (fun g hg => Nat.zero_le _) (fun g i hg hi => ?_)
  refine (H1_round g i _ _).mpr ?_
  obtain ⟨l, ps⟩ := g
  obtain ⟨g1, g2⟩ := hg
  simp only at g1 g2 hi
  have hrl : ∀ i, (rowHp ⟨l, ps⟩ i).length = ps.length := fun i => by unfold rowHp; simp; omega
  simp only [ofNat_eq, toNat_cast, Nat.zero_add, Nat.add_zero, Nat.mul_one, List.drop_zero, bCells_len, bCells_drop, bCells_take, bCells_app, bCells_one, bCells_plain, List.length_replicate, List.length_append, List.length_take, List.length_drop, List.take_length, and_true, true_and, and_self, decide_true, List.length_nil, List.length_cons, Nat.sub_zero, dB_mk, dB_ro, List.take_zero, fPl, sPl, sLen, hrl, mk_bs, bs_d]
  refine br_if (fun h => br_dec (by omega) ?_) (fun h => ⟨(), ?_⟩)
  · have hi : i < ps.length := by omega
    have hi2 : i < (rowHp ⟨l, ps⟩ i).length := by rw [hrl]; exact hi
    have hget : (rowHp ⟨l, ps⟩ i)[i] = ps[i] := by
      have h3 : (List.map lowerL (ps.take i)).length = i := by simp; omega
      have hq : (rowHp ⟨l, ps⟩ i)[i]? = some ps[i] := by
        unfold rowHp
        simp only
        rw [List.getElem?_append_right (by omega), h3, Nat.sub_self, List.getElem?_drop, Nat.add_zero, List.getElem?_eq_getElem hi]
      exact (List.getElem?_eq_some_iff.mp hq).2
    obtain ⟨c1, c2⟩ := sGet _ i hi2
    rw [hget] at c1 c2
    have hx := g2 _ (List.getElem_mem hi)
    have w := i64_succ (show i < 9223372036854775807 by omega)
    have hset := gC_set enS_k (rowHp ⟨l, ps⟩ i) i (lowerL ps[i]) hi2
    rw [Nat.mul_one] at hset
    have hnext : (rowHp ⟨l, ps⟩ i).set i (lowerL ps[i]) = rowHp ⟨l, ps⟩ (i + 1) := by
      unfold rowHp
      simp only
      have h3 : (List.map lowerL (ps.take i)).length = i := by simp; omega
      rw [List.set_append_right _ _ (by omega), h3, List.drop_eq_getElem_cons hi, Nat.sub_self, List.set_cons_zero, List.take_succ_eq_append_getElem hi, List.map_append, List.append_assoc]; rfl
    rw [hnext] at hset
    simp only [c1, c2, strEq_bs, lowS_bs, bs_len, w, true_and, mk_bs, bs_d]
    exact ⟨by omega, br_dec (by omega) (br_dec (by omega) ⟨i + 1, by omega, by omega, rfl, hset.symm⟩)⟩
  · have : i = ps.length := by omega
    subst this
    unfold rowHp; simp only [List.take_length, List.drop_length, List.append_nil]
theorem H2_piece : PieceOk EtHp 1 (25, pH2, specH2) := by
  refine piece_loop mixed (calls_envT tHp_ok) (lok_envT _ _) lm_none (n := 60) (by kernel_rfl) (fun g : GHp => (⟨[], 0⟩ : StH)) (fun g s => s.i ≤ g.l.length ∧ s.acc.length ≤ s.i ∧ s.acc = (g.l.take s.i).filter (hpP g.ps)) (fun g s => g.l.length - s.i) (sl := slH2) (rl := rlH2) (fun g hg => ⟨Nat.zero_le _, Nat.zero_le _, rfl⟩) (fun g s hg hi => ?_)
  refine (H2_round g s _ _).mpr ?_
  obtain ⟨l, ps⟩ := g
  obtain ⟨acc, i⟩ := s
  obtain ⟨g1, g2⟩ := hg
  obtain ⟨h1, h2, h3⟩ := hi
  have hm : maxLen = 9223372036854775807 := by unfold maxLen; rfl
  simp only at g1 g2 h1 h2 h3
  have sTk : List.take (ps.length) (gC enS ps) = gC enS ps := by have := sLen ps; exact List.take_of_length_le (by omega)
  have sT1 : List.take (ps.length * 1) (gC enS ps) = gC enS ps := by rw [Nat.mul_one]; exact sTk
  simp only [ofNat_eq, toNat_cast, Nat.zero_add, Nat.add_zero, Nat.mul_one, List.drop_zero, bCells_len, bCells_drop, bCells_take, bCells_app, bCells_one, bCells_plain, List.length_replicate, List.length_append, List.length_take, List.length_drop, List.take_length, and_true, true_and, and_self, decide_true, List.length_nil, List.length_cons, Nat.sub_zero, dB_mk, dB_ro, List.take_zero, fPl, sPl, fLen, sLen, fTake, sTk, sT1, mk_bs, bs_d]
  refine br_if (fun h => br_dec (by omega) ?_) (fun h => ⟨(), ?_⟩)
  · have hi : i < l.length := by omega
    obtain ⟨c1, c2, c3, c4⟩ := fGet l i hi
    have w := i64_succ (show i < 9223372036854775807 by omega)
    have ht : l.take (i + 1) = l.take i ++ [l[i]] := List.take_succ_eq_append_getElem hi
    have e1 : ∀ s : List UInt8, ocS (bs s) = ocL s := fun s => by unfold ocS; rw [L_bs]
    have e2 : gC enF acc ++ [Value.string (bs l[i].n), Value.string (bs l[i].v)] = gC enF (acc ++ [l[i]]) := by rw [← gC_app]; rfl
    have iS : IsS ⟨gC enS ps, true, .cells true⟩ ps.length := ⟨ps, rfl, rfl⟩
    simp only [c1, c2, c3, c4, w, e1, n_li, strEq_bs, true_and, and_true, mk_bs, bs_d, iS, hm, e2, sLen]
    have no : hpP ps l[i] = false → ∃ j : StH, (j.i ≤ l.length ∧ j.acc.length ≤ j.i ∧ j.acc = (l.take j.i).filter (hpP ps)) ∧ l.length - j.i < l.length - i ∧ j.acc.length = acc.length ∧ (j.i : Int) = ((i + 1 : Nat) : Int) ∧ gC enF j.acc = gC enF acc := fun hp => ⟨⟨acc, i + 1⟩, ⟨by simp only; omega, by simp only; omega, by simp only; rw [ht, List.filter_append, ← h3]; simp [hp]⟩, by simp only; omega, rfl, rfl, rfl⟩
    have ns : ∀ x, decide (x = sTe) = decide (x = [116, 101]) := fun _ => rfl
    refine br_intro (fun k1 => br_intro (fun k2 => ⟨by omega, br_intro (fun k3 => br_dec (by omega) (br_dec (by omega) ⟨⟨acc ++ [l[i]], i + 1⟩, ⟨by simp only; omega, by simp; omega, ?_⟩, by simp only; omega, by simp, rfl, rfl⟩)) (fun k3 => no ?_)⟩) (fun k2 => no ?_)) (fun k1 => no ?_)
    · simp only; rw [ht, List.filter_append, ← h3]
      have : hpP ps l[i] = true := by unfold hpP; rw [k1, ns, k2, k3]; rfl
      simp [this]
    · unfold hpP; rw [k3]; simp
    · unfold hpP; rw [ns, k2]; simp
    · unfold hpP; rw [k1]; simp
  · rw [List.take_of_length_le (by omega)] at h3
    rw [h3]; exact ⟨rfl, rfl⟩
theorem Hp_con (l : List Fl) (hl : l.length ≤ 16777000) (h : 3 * lgN l ≤ 16777000) : Con Try.prog 25 [.slice (some ⟨0, 0, none⟩) l.length 2] [gRo enF l] (.slice (some ⟨1, 0, none⟩) (hopL l).length 2) [gRo enF l, gOwn enF (hopL l)] := by
  refine con_vc (E := EtHp) mixed (calls_envT tHp_ok) (lok_envT _ _) (M := mHp) (lm_two H1_piece H2_piece) (Hp_vc l) ?_
  have hm : maxLen = 9223372036854775807 := by unfold maxLen; rfl
  have e4 : (⟨#[99, 111, 110, 110, 101, 99, 116, 105, 111, 110]⟩ : ByteArray) = bs sConn := rfl
  simp only [ofNat_eq, toNat_cast, Nat.zero_add, Nat.add_zero, Nat.mul_one, List.drop_zero, bCells_len, bCells_drop, bCells_take, bCells_app, bCells_one, bCells_plain, List.length_replicate, List.length_append, List.length_take, List.length_drop, List.take_length, and_true, true_and, and_self, decide_true, List.length_nil, List.length_cons, Nat.sub_zero, dB_mk, dB_ro, List.take_zero, fPl, fLen, fTake, sPl, sLen, e4, n_alV, n_alB, elN_bs, elC_bs, okS_bs, bs_len, hm, isF_eq]
  obtain ⟨s1, s2⟩ := split_len (allL l sConn)
  have a1 := allL_le l sConn
  refine ⟨⟨by omega, by omega⟩, by omega, ⟨l, elSp (allL l sConn)⟩, ⟨by simp only; unfold elSp; omega, fun x hx => by have := s1 x hx; omega⟩, rfl, rfl, rfl, rfl, rfl, rfl, fun _ _ => ⟨⟨l, hpN l⟩, ⟨by simp only; unfold hpN; rw [List.length_map]; unfold elSp; omega, hl⟩, by simp only; unfold hpN; rw [List.length_map], rfl, rfl, rfl, rfl, fun _ _ => ⟨rfl, rfl, rfl⟩⟩⟩
theorem eHop_ok : EntOk Try.prog eHop := entC_ok (by
  intro a rows p v news h hp
  split at h <;> simp only [Option.some.injEq, Prod.mk.injEq, reduceCtorEq] at h
  obtain ⟨rfl, rfl, rfl⟩ := h
  obtain ⟨⟨l, rfl, rfl⟩, h1, h2⟩ := hp
  simp only [hpB, hpK, hpC, show ∀ l : List Fl, decF (gRo enF l).cells = l from fun l => decF_gC l] at h2 ⊢
  exact Hp_con l h1 h2)
theorem n_hpC (l : List Fl) (b : Bool) (o : Ob) : hpC ⟨gC enF l, b, o⟩ = gC enF (hopL l) := by unfold hpC; simp only; rw [decF_gC]
theorem n_hpK (l : List Fl) (b : Bool) (o : Ob) : hpK ⟨gC enF l, b, o⟩ = (hopL l).length := by unfold hpK; simp only; rw [decF_gC]
theorem n_hpB (l : List Fl) (b : Bool) (o : Ob) : hpB ⟨gC enF l, b, o⟩ = 3 * lgN l := by unfold hpB; simp only; rw [decF_gC]
end Go.Proofs.Yteodlmfnkjdhhaa.tk
