/- The law: a list's bytes are read again as the list, or as its first error. -/
import Derived.Test.YtocehonfnpjcjaaSz9
import Derived.Test.YtocehonfnpjcjaaRows
import Derived.Test.YtocehonfnpjcjaaLshSm
import Derived.Test.YtocehonfnpjcjaaLwit
set_option linter.unusedSimpArgs false
set_option linter.unusedVariables false
namespace Go.Proofs.Ytocehonfnpjcjaa.sh
open Go Go.Ev Go.Sy Go.RowKit Go.Proofs.Ytocehonfnpjcjaa.gl
def by1 (n k : Int) : UInt8 := UInt8.ofNat (n / k % 256).toNat
/-- A setting's six bytes. -/
def seB (s : Se) : List UInt8 := [by1 s.i 256, by1 s.i 1, by1 s.v 16777216, by1 s.v 65536, by1 s.v 256, by1 s.v 1]
def SeOk (s : Se) : Prop := 0 ≤ s.i ∧ s.i ≤ 65535 ∧ 0 ≤ s.v ∧ s.v ≤ 4294967295
def putL (l : List Se) : List UInt8 := l.flatMap seB
def dSe (r : Row) : List Se := decS r.cells
def AllOk (r : Row) : Prop := ∀ s ∈ dSe r, SeOk s
def putC (r : Row) : List Value := bCells (putL (dSe r))
noncomputable def eWi : EntM := entC 18 fun a r => match a, r with
  | [.int .i64 n, .int .i64 lo, .int .i64 hi], [] => some (I64 n ∧ -1000000000000 ≤ lo ∧ hi ≤ 1000000000000 ∧ lo ≤ hi, .int .i64 (Go.Proofs.Ytocehonfnpjcjaa.tk.inside n lo hi), [])
  | _, _ => none
noncomputable def eRuns : EntM := entC 3 fun a r => match a, r with
  | [], [] => some (True, .bool true, [])
  | _, _ => none
noncomputable def ePut : EntM := entC 13 fun a r => match a, r with
  | [.slice (some ⟨0, 0, none⟩) n 2], [r0] => some (IsSe r0 n ∧ n ≤ 1000 ∧ AllOk r0, .slice (some ⟨1, 0, none⟩) (n * 6) 1, [⟨putC r0, false, .cells true⟩])
  | _, _ => none
noncomputable def tBk : List EntM := [ePut, eOf, eSaS, eVal, eWi, eRuns]
noncomputable abbrev EtBk : Env := envT Try.prog tBk
def pPut : List Nat := [0, 1, 0, 1, 1]
structure StPut where
  acc : List UInt8
  i : Nat
def slPut (l : List Se) (s : StPut) : List (Nat × Value) := [(3, .slice (some ⟨1, 0, none⟩) s.acc.length 1), (7, .slice (some ⟨0, 0, none⟩) l.length 2), (8, .int .i64 (l.length : Nat)), (9, .int .i64 (s.i : Nat))]
def rlPut (l : List Se) (acc : List UInt8) : List (Nat × Row) := [(0, gRo seC l), (1, bOwn acc)]
def wsPut (l : List Se) : List (Gate (List UInt8)) := [⟨.exit 0, fun a => a = putL l, fun a => [(3, .slice (some ⟨1, 0, none⟩) a.length 1)], fun a => rlPut l a, 2⟩]
def specPut : Sy.Spec := specOf 1 2 38 (fun l : List Se => l.length ≤ 1000 ∧ ∀ s ∈ l, SeOk s) (fun l => slPut l ⟨[], 0⟩) (fun l => rlPut l []) wsPut
def mPut := mOf [(13, pPut, specPut)]
def pBk : List Nat := [0, 1, 0, 1, 1, 1]
structure StBk where
  own : List Se
  co : Int
  i : Nat
def insE (s : Se) : Se := ⟨Go.Proofs.Ytocehonfnpjcjaa.tk.inside s.i 0 65535, Go.Proofs.Ytocehonfnpjcjaa.tk.inside s.v 0 4294967295⟩
def slBk0 (l : List Se) (own : List Se) (co : Int) : List (Nat × Value) := [(3, .slice (some ⟨1, 0, none⟩) own.length 2), (4, .int .i64 co)]
def slBk (l : List Se) (s : StBk) : List (Nat × Value) := slBk0 l s.own s.co ++ [(0, .slice (some ⟨0, 0, none⟩) l.length 2), (5, .int .i64 (s.i : Nat))]
def rlBk (l : List Se) (own : List Se) : List (Nat × Row) := [(0, gRo seC l), (1, gOwn seC own)]
def ownL (l : List Se) : List Se := (l.take 40).map insE
def wsBk (l : List Se) : List (Gate (List Se)) := [⟨.exit 0, fun o => o = ownL l, fun o => slBk0 l o (seErr o), fun o => rlBk l o, 2⟩]
def specBk : Sy.Spec := specOf 1 2 78 (fun l : List Se => l.length ≤ maxLen ∧ ∀ x ∈ l, I64 x.i ∧ I64 x.v) (fun l => slBk l ⟨[], 0, 0⟩) (fun l => rlBk l []) wsBk
def mBk := mOf [(6, pBk, specBk)]
theorem Put_round (l : List Se) (s : StPut) (Inv : StPut → Prop) (m : StPut → Nat) : mev E0 noM 60 13 (0 :: pPut) false (codeOf Try.prog 13 (0 :: pPut)) ⟨mkOv (slPut l s), 38, []⟩ none ⟨mkR (rlPut l s.acc), 2⟩ (roundK 1 2 38 Inv m (slPut l) (fun s => rlPut l s.acc) (wsPut l) s) =
  (br (decide ((↑s.2 : Int) < (↑(List.length l) : Int)))
   (br (decide ((0 : Int) ≤ (↑s.2 : Int) ∧ (↑s.2 : Int) < (↑(List.length l) : Int)))
    ((Eq (α := Option Value) ((gC seC l)[(0 : Nat) + Int.toNat (↑s.2 : Int) * (2 : Nat)]?) (some (Value.int IntKind.i64 (cellI (gC seC l) ((0 : Nat) + Int.toNat (↑s.2 : Int) * (2 : Nat)))))) ∧
    ((Eq (α := Option Value) ((gC seC l)[(0 : Nat) + Int.toNat (↑s.2 : Int) * (2 : Nat) + (1 : Nat)]?) (some (Value.int IntKind.i64 (cellI (gC seC l) ((0 : Nat) + Int.toNat (↑s.2 : Int) * (2 : Nat) + (1 : Nat)))))) ∧
    (br (decide (List.length s.1 + (6 : Nat) ≤ (16777216 : Nat)))
     (br (decide ((0 : Nat) + List.length s.1 * (1 : Nat) ≤ List.length (bCells s.1)))
      (∃ j : StPut, ((Inv j) ∧
      ((m j < m s) ∧
      (((0 : Nat) = (0 : Nat)) ∧
      ((List.length j.1 = List.length s.1 + (6 : Nat)) ∧
      (((0 : Nat) = (0 : Nat)) ∧
      ((List.length l = List.length l) ∧
      (((↑(List.length l) : Int) = (↑(List.length l) : Int)) ∧
      (((↑j.2 : Int) = IntKind.wrap IntKind.i64 ((↑s.2 : Int) + (1 : Int))) ∧
      ((Eq (α := List Value) (gC seC l) (gC seC l)) ∧
      ((Plain (gC seC l)) ∧
      ((Eq (α := List Value) (bCells j.1) (List.take (List.length s.1 * (1 : Nat)) (List.drop (0 : Nat) (bCells s.1)) ++ [Value.int IntKind.u8 (IntKind.wrap IntKind.u8 (ishr IntKind.i64 (cellI (gC seC l) ((0 : Nat) + Int.toNat (↑s.2 : Int) * (2 : Nat))) (8 : Int))), Value.int IntKind.u8 (IntKind.wrap IntKind.u8 (cellI (gC seC l) ((0 : Nat) + Int.toNat (↑s.2 : Int) * (2 : Nat)))), Value.int IntKind.u8 (IntKind.wrap IntKind.u8 (ishr IntKind.i64 (cellI (gC seC l) ((0 : Nat) + Int.toNat (↑s.2 : Int) * (2 : Nat) + (1 : Nat))) (24 : Int))), Value.int IntKind.u8 (IntKind.wrap IntKind.u8 (ishr IntKind.i64 (cellI (gC seC l) ((0 : Nat) + Int.toNat (↑s.2 : Int) * (2 : Nat) + (1 : Nat))) (16 : Int))), Value.int IntKind.u8 (IntKind.wrap IntKind.u8 (ishr IntKind.i64 (cellI (gC seC l) ((0 : Nat) + Int.toNat (↑s.2 : Int) * (2 : Nat) + (1 : Nat))) (8 : Int))), Value.int IntKind.u8 (IntKind.wrap IntKind.u8 (cellI (gC seC l) ((0 : Nat) + Int.toNat (↑s.2 : Int) * (2 : Nat) + (1 : Nat))))])) ∧
      ((Plain (bCells j.1)) ∧
      True)))))))))))))
      False)
     False)))
    False)
   (∃ y : List UInt8, ((Eq (α := List UInt8) (y) (putL l)) ∧
   (((0 : Nat) = (0 : Nat)) ∧
   ((List.length y = List.length s.1) ∧
   ((Eq (α := List Value) (gC seC l) (gC seC l)) ∧
   ((Plain (gC seC l)) ∧
   ((Eq (α := List Value) (bCells y) (bCells s.1)) ∧
   ((Plain (bCells y)) ∧
   True))))))))) := by kernel_rfl
theorem Put_vc (l : List Se) (o : List UInt8) : mcall E0 mPut 60 13 [.slice (some ⟨0, 0, none⟩) l.length 2] ⟨mkR (nums 0 [gRo seC l]), 1⟩ (retIs 1 (.slice (some ⟨1, 0, none⟩) o.length 1) [gRo seC l, bOwn o]) =
  (∃ g : List Se, ((List.length g ≤ (1000 : Nat) ∧ ∀ (s : Se), s ∈ g → SeOk s) ∧
  (((0 : Nat) = (0 : Nat)) ∧
  (((0 : Nat) = (0 : Nat)) ∧
  ((List.length g = List.length l) ∧
  (((↑(List.length g) : Int) = Int.ofNat (List.length l)) ∧
  (((0 : Int) = (0 : Int)) ∧
  ((Eq (α := List Value) (gC seC g) (gC seC l)) ∧
  ((Plain (gC seC g)) ∧
  ((Eq (α := List Value) ([]) ([])) ∧
  (∀ (y : List UInt8), ((y = putL g) →
  (((0 : Nat) = (0 : Nat)) ∧
  ((List.length o = List.length y) ∧
  ((Eq (α := List Value) (gC seC l) (gC seC g)) ∧
  ((Plain (gC seC l)) ∧
  ((Eq (α := List Value) (bCells o) (bCells y)) ∧
  ((Plain (bCells o)) ∧
  True)))))))))))))))))) := by kernel_rfl
theorem Bk_round (l : List Se) (s : StBk) (Inv : StBk → Prop) (m : StBk → Nat) : mev EtBk noM 60 6 (0 :: pBk) false (codeOf Try.prog 6 (0 :: pBk)) ⟨mkOv (slBk l s), 78, []⟩ none ⟨mkR (rlBk l s.own), 2⟩ (roundK 1 2 78 Inv m (slBk l) (fun s => rlBk l s.own) (wsBk l) s) =
  (br (decide ((↑s.3 : Int) < Int.ofNat (List.length l)))
   (br (decide ((↑s.3 : Int) < (40 : Int)))
    (br (decide ((0 : Int) ≤ (↑s.3 : Int) ∧ (↑s.3 : Int) < (↑(List.length l) : Int)))
     ((Eq (α := Option Value) ((gC seC l)[(0 : Nat) + Int.toNat (↑s.3 : Int) * (2 : Nat) + (0 : Nat)]?) (some (Value.int IntKind.i64 (cellI (gC seC l) ((0 : Nat) + Int.toNat (↑s.3 : Int) * (2 : Nat) + (0 : Nat)))))) ∧
     ((((True ∧ (True ∧ (True ∧ True))) ∧ (True ∧ (True ∧ (I64 (cellI (gC seC l) ((0 : Nat) + Int.toNat (↑s.3 : Int) * (2 : Nat) + (0 : Nat))) ∧ ((-1000000000000 : Int) ≤ (0 : Int) ∧ ((65535 : Int) ≤ (1000000000000 : Int) ∧ (0 : Int) ≤ (65535 : Int)))))))) ∧
     (br (decide ((0 : Int) ≤ (↑s.3 : Int) ∧ (↑s.3 : Int) < (↑(List.length l) : Int)))
      ((Eq (α := Option Value) ((gC seC l)[(0 : Nat) + Int.toNat (↑s.3 : Int) * (2 : Nat) + (1 : Nat)]?) (some (Value.int IntKind.i64 (cellI (gC seC l) ((0 : Nat) + Int.toNat (↑s.3 : Int) * (2 : Nat) + (1 : Nat)))))) ∧
      ((((True ∧ (True ∧ (True ∧ True))) ∧ (True ∧ (True ∧ (I64 (cellI (gC seC l) ((0 : Nat) + Int.toNat (↑s.3 : Int) * (2 : Nat) + (1 : Nat))) ∧ ((-1000000000000 : Int) ≤ (0 : Int) ∧ ((4294967295 : Int) ≤ (1000000000000 : Int) ∧ (0 : Int) ≤ (4294967295 : Int)))))))) ∧
      ((Eq (α := Option Value) ((gC seC l)[(0 : Nat) + Int.toNat (↑s.3 : Int) * (2 : Nat) + (0 : Nat)]?) (some (Value.int IntKind.i64 (cellI (gC seC l) ((0 : Nat) + Int.toNat (↑s.3 : Int) * (2 : Nat) + (0 : Nat)))))) ∧
      ((Value.int IntKind.i64 (cellI (gC seC l) ((0 : Nat) + Int.toNat (↑s.3 : Int) * (2 : Nat) + (0 : Nat))) = Value.int IntKind.i64 (cellI (gC seC l) ((0 : Nat) + Int.toNat (↑s.3 : Int) * (2 : Nat) + (0 : Nat)))) ∧
      ((Eq (α := Option Value) ((gC seC l)[(0 : Nat) + Int.toNat (↑s.3 : Int) * (2 : Nat) + (1 : Nat)]?) (some (Value.int IntKind.i64 (cellI (gC seC l) ((0 : Nat) + Int.toNat (↑s.3 : Int) * (2 : Nat) + (1 : Nat)))))) ∧
      ((Value.int IntKind.i64 (cellI (gC seC l) ((0 : Nat) + Int.toNat (↑s.3 : Int) * (2 : Nat) + (1 : Nat))) = Value.int IntKind.i64 (cellI (gC seC l) ((0 : Nat) + Int.toNat (↑s.3 : Int) * (2 : Nat) + (1 : Nat)))) ∧
      ((Eq (α := Option Value) ((gC seC l)[(0 : Nat) + Int.toNat (↑s.3 : Int) * (2 : Nat) + (1 : Nat)]?) (some (Value.int IntKind.i64 (cellI (gC seC l) ((0 : Nat) + Int.toNat (↑s.3 : Int) * (2 : Nat) + (1 : Nat)))))) ∧
      ((Value.int IntKind.i64 (cellI (gC seC l) ((0 : Nat) + Int.toNat (↑s.3 : Int) * (2 : Nat) + (1 : Nat))) = Value.int IntKind.i64 (cellI (gC seC l) ((0 : Nat) + Int.toNat (↑s.3 : Int) * (2 : Nat) + (1 : Nat)))) ∧
      (br (decide (List.length s.1 + (1 : Nat) ≤ (16777216 : Nat)))
       (br (decide ((0 : Nat) + List.length s.1 * (2 : Nat) ≤ List.length (gC seC s.1)))
        (br (s.2 == (0 : Int))
         (((((True ∧ (True ∧ True)) ∧ True) ∧ (True ∧ (True ∧ True)))) ∧
         (∃ j : StBk, ((Inv j) ∧
         ((m j < m s) ∧
         (((0 : Nat) = (0 : Nat)) ∧
         ((List.length j.1 = List.length s.1 + (1 : Nat)) ∧
         ((j.2 = valI (tk.inside (cellI (gC seC l) ((0 : Nat) + Int.toNat (↑s.3 : Int) * (2 : Nat) + (0 : Nat))) (0 : Int) (65535 : Int)) (tk.inside (cellI (gC seC l) ((0 : Nat) + Int.toNat (↑s.3 : Int) * (2 : Nat) + (1 : Nat))) (0 : Int) (4294967295 : Int))) ∧
         (((0 : Nat) = (0 : Nat)) ∧
         ((List.length l = List.length l) ∧
         (((↑j.3 : Int) = IntKind.wrap IntKind.i64 ((↑s.3 : Int) + (1 : Int))) ∧
         ((Eq (α := List Value) (gC seC l) (gC seC l)) ∧
         ((Plain (gC seC l)) ∧
         ((Eq (α := List Value) (gC seC j.1) (List.take (List.length s.1 * (2 : Nat)) (List.drop (0 : Nat) (gC seC s.1)) ++ [Value.int IntKind.i64 (tk.inside (cellI (gC seC l) ((0 : Nat) + Int.toNat (↑s.3 : Int) * (2 : Nat) + (0 : Nat))) (0 : Int) (65535 : Int)), Value.int IntKind.i64 (tk.inside (cellI (gC seC l) ((0 : Nat) + Int.toNat (↑s.3 : Int) * (2 : Nat) + (1 : Nat))) (0 : Int) (4294967295 : Int))])) ∧
         ((Plain (gC seC j.1)) ∧
         True))))))))))))))
         (∃ j : StBk, ((Inv j) ∧
         ((m j < m s) ∧
         (((0 : Nat) = (0 : Nat)) ∧
         ((List.length j.1 = List.length s.1 + (1 : Nat)) ∧
         ((j.2 = s.2) ∧
         (((0 : Nat) = (0 : Nat)) ∧
         ((List.length l = List.length l) ∧
         (((↑j.3 : Int) = IntKind.wrap IntKind.i64 ((↑s.3 : Int) + (1 : Int))) ∧
         ((Eq (α := List Value) (gC seC l) (gC seC l)) ∧
         ((Plain (gC seC l)) ∧
         ((Eq (α := List Value) (gC seC j.1) (List.take (List.length s.1 * (2 : Nat)) (List.drop (0 : Nat) (gC seC s.1)) ++ [Value.int IntKind.i64 (tk.inside (cellI (gC seC l) ((0 : Nat) + Int.toNat (↑s.3 : Int) * (2 : Nat) + (0 : Nat))) (0 : Int) (65535 : Int)), Value.int IntKind.i64 (tk.inside (cellI (gC seC l) ((0 : Nat) + Int.toNat (↑s.3 : Int) * (2 : Nat) + (1 : Nat))) (0 : Int) (4294967295 : Int))])) ∧
         ((Plain (gC seC j.1)) ∧
         True))))))))))))))
        False)
       False)))))))))
      False)))
     False)
    (∃ y : List Se, ((Eq (α := List Se) (y) (ownL l)) ∧
    (((0 : Nat) = (0 : Nat)) ∧
    ((List.length y = List.length s.1) ∧
    ((seErr y = s.2) ∧
    ((Eq (α := List Value) (gC seC l) (gC seC l)) ∧
    ((Plain (gC seC l)) ∧
    ((Eq (α := List Value) (gC seC y) (gC seC s.1)) ∧
    ((Plain (gC seC y)) ∧
    True))))))))))
   (∃ y : List Se, ((Eq (α := List Se) (y) (ownL l)) ∧
   (((0 : Nat) = (0 : Nat)) ∧
   ((List.length y = List.length s.1) ∧
   ((seErr y = s.2) ∧
   ((Eq (α := List Value) (gC seC l) (gC seC l)) ∧
   ((Plain (gC seC l)) ∧
   ((Eq (α := List Value) (gC seC y) (gC seC s.1)) ∧
   ((Plain (gC seC y)) ∧
   True)))))))))) := by kernel_rfl
theorem Bk_vc (l : List Se) : mcall EtBk mBk 60 6 [.slice (some ⟨0, 0, none⟩) l.length 2] ⟨mkR (nums 0 [gRo seC l]), 1⟩ (retIs 1 (.bool true) [gRo seC l]) =
  (∃ g : List Se, ((List.length g ≤ (9223372036854775807 : Nat) ∧ ∀ (x : Se), x ∈ g → I64 (Se.i x) ∧ I64 (Se.v x)) ∧
  (((0 : Nat) = (0 : Nat)) ∧
  (((0 : Int) = (0 : Int)) ∧
  (((0 : Nat) = (0 : Nat)) ∧
  ((List.length g = List.length l) ∧
  (((0 : Int) = (0 : Int)) ∧
  ((Eq (α := List Value) (gC seC g) (gC seC l)) ∧
  ((Plain (gC seC g)) ∧
  ((Eq (α := List Value) ([]) ([])) ∧
  (∀ (y : List Se), ((y = ownL g) →
  ((((((0 : Nat) + List.length y * (2 : Nat) ≤ List.length (gC seC y) ∧ Plain (List.take (List.length y * (2 : Nat)) (List.drop (0 : Nat) (gC seC y)))) ∧ True) ∧ ((True ∧ True) ∧ ((Plain (putC (Row.mk (List.take (List.length y * (2 : Nat)) (List.drop (0 : Nat) (gC seC y))) true (Ob.cells true))) ∧ True) ∧ (IsSe (Row.mk (List.take (List.length y * (2 : Nat)) (List.drop (0 : Nat) (gC seC y))) true (Ob.cells true)) (List.length y) ∧ (List.length y ≤ (1000 : Nat) ∧ AllOk (Row.mk (List.take (List.length y * (2 : Nat)) (List.drop (0 : Nat) (gC seC y))) true (Ob.cells true)))))))) ∧
  (((((True ∧ (True ∧ (True ∧ (((0 : Nat) + List.length y * (6 : Nat) * (1 : Nat) ≤ List.length (putC (Row.mk (List.take (List.length y * (2 : Nat)) (List.drop (0 : Nat) (gC seC y))) true (Ob.cells true))) ∧ Plain (List.take (List.length y * (6 : Nat) * (1 : Nat)) (List.drop (0 : Nat) (putC (Row.mk (List.take (List.length y * (2 : Nat)) (List.drop (0 : Nat) (gC seC y))) true (Ob.cells true)))))) ∧ True)))) ∧ True) ∧ ((True ∧ True) ∧ ((Plain (oBc (4 : Int) (0 : Int) (0 : Int) (Row.mk (List.take (List.length y * (6 : Nat) * (1 : Nat)) (List.drop (0 : Nat) (putC (Row.mk (List.take (List.length y * (2 : Nat)) (List.drop (0 : Nat) (gC seC y))) true (Ob.cells true))))) true (Ob.cells true))) ∧ (Plain (oSc (4 : Int) (0 : Int) (0 : Int) (Row.mk (List.take (List.length y * (6 : Nat) * (1 : Nat)) (List.drop (0 : Nat) (putC (Row.mk (List.take (List.length y * (2 : Nat)) (List.drop (0 : Nat) (gC seC y))) true (Ob.cells true))))) true (Ob.cells true))) ∧ True)) ∧ (IsB (Row.mk (List.take (List.length y * (6 : Nat) * (1 : Nat)) (List.drop (0 : Nat) (putC (Row.mk (List.take (List.length y * (2 : Nat)) (List.drop (0 : Nat) (gC seC y))) true (Ob.cells true))))) true (Ob.cells true)) (List.length y * (6 : Nat)) ∧ List.length y * (6 : Nat) ≤ (16777216 : Nat)))))) ∧
  (br (seErr y != (0 : Int))
   (br (oXs (4 : Int) (0 : Int) (0 : Int) (Row.mk (List.take (List.length y * (6 : Nat) * (1 : Nat)) (List.drop (0 : Nat) (putC (Row.mk (List.take (List.length y * (2 : Nat)) (List.drop (0 : Nat) (gC seC y))) true (Ob.cells true))))) true (Ob.cells true)) == (2 : Int) && (oXc (4 : Int) (0 : Int) (0 : Int) (Row.mk (List.take (List.length y * (6 : Nat) * (1 : Nat)) (List.drop (0 : Nat) (putC (Row.mk (List.take (List.length y * (2 : Nat)) (List.drop (0 : Nat) (gC seC y))) true (Ob.cells true))))) true (Ob.cells true)) == seErr y && (oXn (4 : Int) (0 : Int) (0 : Int) (Row.mk (List.take (List.length y * (6 : Nat) * (1 : Nat)) (List.drop (0 : Nat) (putC (Row.mk (List.take (List.length y * (2 : Nat)) (List.drop (0 : Nat) (gC seC y))) true (Ob.cells true))))) true (Ob.cells true)) == (0 : Int) && true)))
    (((True ∧ (True ∧ (True ∧ True)))) ∧
    ((true = true) ∧
    ((Eq (α := List Value) (gC seC l) (gC seC g)) ∧
    ((Plain (gC seC l)) ∧
    True))))
    ((true = false) ∧
    ((Eq (α := List Value) (gC seC l) (gC seC g)) ∧
    ((Plain (gC seC l)) ∧
    True))))
   (br (Int.ofNat (List.length y * (6 : Nat)) == IntKind.wrap IntKind.i64 ((6 : Int) * Int.ofNat (List.length y)))
    (br (oXs (4 : Int) (0 : Int) (0 : Int) (Row.mk (List.take (List.length y * (6 : Nat) * (1 : Nat)) (List.drop (0 : Nat) (putC (Row.mk (List.take (List.length y * (2 : Nat)) (List.drop (0 : Nat) (gC seC y))) true (Ob.cells true))))) true (Ob.cells true)) == (0 : Int) && (oXc (4 : Int) (0 : Int) (0 : Int) (Row.mk (List.take (List.length y * (6 : Nat) * (1 : Nat)) (List.drop (0 : Nat) (putC (Row.mk (List.take (List.length y * (2 : Nat)) (List.drop (0 : Nat) (gC seC y))) true (Ob.cells true))))) true (Ob.cells true)) == (0 : Int) && (oXn (4 : Int) (0 : Int) (0 : Int) (Row.mk (List.take (List.length y * (6 : Nat) * (1 : Nat)) (List.drop (0 : Nat) (putC (Row.mk (List.take (List.length y * (2 : Nat)) (List.drop (0 : Nat) (gC seC y))) true (Ob.cells true))))) true (Ob.cells true)) == (0 : Int) && true)))
     ((((((0 : Nat) + oSn (4 : Int) (0 : Int) (0 : Int) (Row.mk (List.take (List.length y * (6 : Nat) * (1 : Nat)) (List.drop (0 : Nat) (putC (Row.mk (List.take (List.length y * (2 : Nat)) (List.drop (0 : Nat) (gC seC y))) true (Ob.cells true))))) true (Ob.cells true)) * (2 : Nat) ≤ List.length (oSc (4 : Int) (0 : Int) (0 : Int) (Row.mk (List.take (List.length y * (6 : Nat) * (1 : Nat)) (List.drop (0 : Nat) (putC (Row.mk (List.take (List.length y * (2 : Nat)) (List.drop (0 : Nat) (gC seC y))) true (Ob.cells true))))) true (Ob.cells true))) ∧ Plain (List.take (oSn (4 : Int) (0 : Int) (0 : Int) (Row.mk (List.take (List.length y * (6 : Nat) * (1 : Nat)) (List.drop (0 : Nat) (putC (Row.mk (List.take (List.length y * (2 : Nat)) (List.drop (0 : Nat) (gC seC y))) true (Ob.cells true))))) true (Ob.cells true)) * (2 : Nat)) (List.drop (0 : Nat) (oSc (4 : Int) (0 : Int) (0 : Int) (Row.mk (List.take (List.length y * (6 : Nat) * (1 : Nat)) (List.drop (0 : Nat) (putC (Row.mk (List.take (List.length y * (2 : Nat)) (List.drop (0 : Nat) (gC seC y))) true (Ob.cells true))))) true (Ob.cells true)))))) ∧ (((0 : Nat) + List.length y * (2 : Nat) ≤ List.length (gC seC y) ∧ Plain (List.take (List.length y * (2 : Nat)) (List.drop (0 : Nat) (gC seC y)))) ∧ True)) ∧ ((True ∧ (True ∧ True)) ∧ (True ∧ (IsSe (Row.mk (List.take (oSn (4 : Int) (0 : Int) (0 : Int) (Row.mk (List.take (List.length y * (6 : Nat) * (1 : Nat)) (List.drop (0 : Nat) (putC (Row.mk (List.take (List.length y * (2 : Nat)) (List.drop (0 : Nat) (gC seC y))) true (Ob.cells true))))) true (Ob.cells true)) * (2 : Nat)) (List.drop (0 : Nat) (oSc (4 : Int) (0 : Int) (0 : Int) (Row.mk (List.take (List.length y * (6 : Nat) * (1 : Nat)) (List.drop (0 : Nat) (putC (Row.mk (List.take (List.length y * (2 : Nat)) (List.drop (0 : Nat) (gC seC y))) true (Ob.cells true))))) true (Ob.cells true))))) true (Ob.cells true)) (oSn (4 : Int) (0 : Int) (0 : Int) (Row.mk (List.take (List.length y * (6 : Nat) * (1 : Nat)) (List.drop (0 : Nat) (putC (Row.mk (List.take (List.length y * (2 : Nat)) (List.drop (0 : Nat) (gC seC y))) true (Ob.cells true))))) true (Ob.cells true))) ∧ (IsSe (Row.mk (List.take (List.length y * (2 : Nat)) (List.drop (0 : Nat) (gC seC y))) true (Ob.cells true)) (List.length y) ∧ (oSn (4 : Int) (0 : Int) (0 : Int) (Row.mk (List.take (List.length y * (6 : Nat) * (1 : Nat)) (List.drop (0 : Nat) (putC (Row.mk (List.take (List.length y * (2 : Nat)) (List.drop (0 : Nat) (gC seC y))) true (Ob.cells true))))) true (Ob.cells true)) ≤ (9223372036854775807 : Nat) ∧ Eq (α := List Value) (List.take (oSn (4 : Int) (0 : Int) (0 : Int) (Row.mk (List.take (List.length y * (6 : Nat) * (1 : Nat)) (List.drop (0 : Nat) (putC (Row.mk (List.take (List.length y * (2 : Nat)) (List.drop (0 : Nat) (gC seC y))) true (Ob.cells true))))) true (Ob.cells true)) * (2 : Nat)) (List.drop (0 : Nat) (oSc (4 : Int) (0 : Int) (0 : Int) (Row.mk (List.take (List.length y * (6 : Nat) * (1 : Nat)) (List.drop (0 : Nat) (putC (Row.mk (List.take (List.length y * (2 : Nat)) (List.drop (0 : Nat) (gC seC y))) true (Ob.cells true))))) true (Ob.cells true))))) (List.take (List.length y * (2 : Nat)) (List.drop (0 : Nat) (gC seC y)))))))))) ∧
     (((True ∧ (True ∧ (True ∧ True)))) ∧
     ((true = true) ∧
     ((Eq (α := List Value) (gC seC l) (gC seC g)) ∧
     ((Plain (gC seC l)) ∧
     True)))))
     ((true = false) ∧
     ((Eq (α := List Value) (gC seC l) (gC seC g)) ∧
     ((Plain (gC seC l)) ∧
     True))))
    ((true = false) ∧
    ((Eq (α := List Value) (gC seC l) (gC seC g)) ∧
    ((Plain (gC seC l)) ∧
    True))))))))))))))))))) := by kernel_rfl
theorem by1_nat (n k : Nat) (hk : 0 < k) : by1 (n : Int) (k : Int) = UInt8.ofNat (n / k % 256) := by
  unfold by1
  congr 1
theorem putL_len (l : List Se) : (putL l).length = l.length * 6 := by
  induction l with
  | nil => rfl
  | cons s l ih => unfold putL at *; rw [List.flatMap_cons, List.length_append, ih]; simp [seB]; omega
theorem seErr_app (a b : List Se) : seErr (a ++ b) = if seErr a = 0 then seErr b else seErr a := by
  induction a with
  | nil => rfl
  | cons s a ih =>
    rw [List.cons_append, seErr, seErr]
    by_cases h : valI s.i s.v = 0
    · rw [if_pos h, if_pos h]; exact ih
    · rw [if_neg h, if_neg h, if_neg h]
theorem seGood_all (a : List Se) (h : seErr a = 0) : seGood a = a := by
  induction a with
  | nil => rfl
  | cons s a ih =>
    rw [seErr] at h
    rw [seGood]
    split at h
    · rename_i h1; rw [if_pos h1, ih h]
    · rename_i h1; exact absurd h h1
set_option maxRecDepth 20000 in
theorem sets_put (l : List Se) (h : ∀ s ∈ l, SeOk s) : sets (putL l) = l := by
  induction l with
  | nil => rfl
  | cons s l ih =>
    have ih := ih fun x hx => h x (by simp [hx])
    obtain ⟨q1, q2, q3, q4⟩ := h s (by simp)
    obtain ⟨si, sv⟩ := s
    simp only at q1 q2 q3 q4
    obtain ⟨n, rfl⟩ : ∃ n : Nat, si = n := ⟨si.toNat, by omega⟩
    obtain ⟨v, rfl⟩ : ∃ n : Nat, sv = n := ⟨sv.toNat, by omega⟩
    have hn : n ≤ 65535 := by omega
    have hv : v ≤ 4294967295 := by omega
    have e : putL (⟨n, v⟩ :: l) = by1 n 256 :: by1 n 1 :: by1 v 16777216 :: by1 v 65536 :: by1 v 256 :: by1 v 1 :: putL l := rfl
    rw [e]
    show ⟨_, _⟩ :: sets (putL l) = _
    rw [ih]
    have bt : ∀ a k : Nat, 0 < k → (by1 (a : Int) (k : Int)).toNat = a / k % 256 := fun a k hk => by rw [by1_nat a k hk, u8_toNat_ofNat (Nat.mod_lt _ (by omega))]
    have b1 := bt n 256 (by omega)
    have b2 := bt n 1 (by omega)
    have b3 := bt v 16777216 (by omega)
    have b4 := bt v 65536 (by omega)
    have b5 := bt v 256 (by omega)
    have b6 := bt v 1 (by omega)
    simp only [Nat.div_one] at b2 b6
    simp only [show ((256 : Nat) : Int) = 256 from rfl, show ((1 : Nat) : Int) = 1 from rfl, show ((16777216 : Nat) : Int) = 16777216 from rfl, show ((65536 : Nat) : Int) = 65536 from rfl] at b1 b2 b3 b4 b5 b6
    clear h q1 q2 q3 q4 bt e
    have x1 : ((by1 (n : Int) 256).toNat * 256 + (by1 (n : Int) 1).toNat) = n := by rw [b1, b2]; omega
    have x2 : num4 [by1 (v : Int) 16777216, by1 (v : Int) 65536, by1 (v : Int) 256, by1 (v : Int) 1] = v := by
      show (by1 (v : Int) 16777216).toNat * 16777216 + (by1 (v : Int) 65536).toNat * 65536 + (by1 (v : Int) 256).toNat * 256 + (by1 (v : Int) 1).toNat = v
      revert b3 b4 b5 b6
      generalize (by1 (v : Int) 16777216).toNat = A
      generalize (by1 (v : Int) 65536).toNat = B
      generalize (by1 (v : Int) 256).toNat = C
      generalize (by1 (v : Int) 1).toNat = D
      intro b3 b4 b5 b6
      have f1 : v / 65536 = v / 256 / 256 := by rw [Nat.div_div_eq_div_mul]
      have f2 : v / 16777216 = v / 256 / 256 / 256 := by rw [Nat.div_div_eq_div_mul, Nat.div_div_eq_div_mul]
      rw [f1] at b4
      rw [f2] at b3
      have g1 := Nat.div_add_mod v 256
      have g2 := Nat.div_add_mod (v / 256) 256
      have g3 := Nat.div_add_mod (v / 256 / 256) 256
      have g4 : v / 256 / 256 / 256 < 256 := by rw [← f2]; exact Nat.div_lt_of_lt_mul (by omega)
      rw [Nat.mod_eq_of_lt g4] at b3
      generalize v / 256 / 256 / 256 = x3 at *
      generalize v / 256 / 256 = x2 at *
      generalize v / 256 = x1 at *
      omega
    rw [x1, x2]
theorem Put_piece : PieceOk E0 1 (13, pPut, specPut) := by
  refine piece_loop mixed (calls_envN _) (lok_envN _) lm_none (n := 60) (by kernel_rfl) (fun _ : List Se => (⟨[], 0⟩ : StPut)) (fun l s => s.i ≤ l.length ∧ s.acc = putL (l.take s.i)) (fun l s => l.length - s.i) (sl := slPut) (rl := fun l s => rlPut l s.acc) (fun l hg => ⟨Nat.zero_le _, rfl⟩) (fun l s hg hi => ?_)
  refine (Put_round l s _ _).mpr ?_
  obtain ⟨acc, i⟩ := s
  obtain ⟨g1, g2⟩ := hg
  obtain ⟨h1, h2⟩ := hi
  simp only at h1 h2
  simp only [ofNat_eq, toNat_cast, Nat.zero_add, Nat.add_zero, Nat.mul_one, List.drop_zero, bCells_len, bCells_drop, bCells_take, bCells_app, bCells_one, bCells_plain, List.length_replicate, List.length_append, List.length_take, List.length_drop, List.take_length, and_true, true_and, and_self, decide_true, List.length_nil, List.length_cons, Nat.sub_zero, dB_mk, dB_ro, List.take_zero, sePl, seL, seTake]
  refine br_if (fun h => br_dec (by omega) ?_) (fun h => ?_)
  rotate_left
  · rw [List.take_of_length_le (by omega)] at h2
    exact ⟨acc, h2, rfl, rfl⟩
  have hi : i < l.length := by omega
  obtain ⟨c1, c2, c3, c4⟩ := seGet l i hi
  have w := i64_succ (show i < 9223372036854775807 by omega)
  have ht : l.take (i + 1) = l.take i ++ [l[i]] := List.take_succ_eq_append_getElem hi
  have hs := g2 l[i] (List.getElem_mem hi)
  have ha : acc.length = i * 6 := by rw [h2, putL_len]; simp; omega
  simp only [c1, c2, c3, c4, w, true_and]
  generalize l[i] = s at *
  obtain ⟨si, sv⟩ := s
  obtain ⟨q1, q2, q3, q4⟩ := hs
  simp only at q1 q2 q3 q4
  obtain ⟨n, rfl⟩ : ∃ n : Nat, si = n := ⟨si.toNat, by omega⟩
  obtain ⟨v, rfl⟩ : ∃ n : Nat, sv = n := ⟨sv.toNat, by omega⟩
  have sh8 : ∀ a : Nat, ishr .i64 (a : Int) 8 = ((a / 256 : Nat) : Int) := fun a => ishr_nat (k := 8) (by omega)
  have sh16 : ∀ a : Nat, ishr .i64 (a : Int) 16 = ((a / 65536 : Nat) : Int) := fun a => ishr_nat (k := 16) (by omega)
  have sh24 : ∀ a : Nat, ishr .i64 (a : Int) 24 = ((a / 16777216 : Nat) : Int) := fun a => ishr_nat (k := 24) (by omega)
  have u8 : ∀ a : Nat, Value.int .u8 (IntKind.u8.wrap (a : Int)) = bVal (UInt8.ofNat (a % 256)) := fun a => by
    rw [wru8, show ((a : Int) % 256) = ((a % 256 : Nat) : Int) by omega, bVal_nat (Nat.mod_lt _ (by omega))]
  have e6 : [bVal (UInt8.ofNat (n / 256 % 256)), bVal (UInt8.ofNat (n % 256)), bVal (UInt8.ofNat (v / 16777216 % 256)), bVal (UInt8.ofNat (v / 65536 % 256)), bVal (UInt8.ofNat (v / 256 % 256)), bVal (UInt8.ofNat (v % 256))] = bCells (seB ⟨n, v⟩) := by
    unfold seB
    have b1 := by1_nat n 256 (by omega)
    have b2 := by1_nat n 1 (by omega)
    have b3 := by1_nat v 16777216 (by omega)
    have b4 := by1_nat v 65536 (by omega)
    have b5 := by1_nat v 256 (by omega)
    have b6 := by1_nat v 1 (by omega)
    simp only [Nat.div_one] at b2 b6
    simp only [show ((256 : Nat) : Int) = 256 from rfl, show ((1 : Nat) : Int) = 1 from rfl, show ((16777216 : Nat) : Int) = 16777216 from rfl, show ((65536 : Nat) : Int) = 65536 from rfl] at b1 b2 b3 b4 b5 b6
    simp only [b1, b2, b3, b4, b5, b6, bCells, List.map]
  simp only [sh8, sh16, sh24, u8, e6, bCells_app]
  refine br_dec (by omega) (br_dec (by omega) ⟨⟨acc ++ seB ⟨n, v⟩, i + 1⟩, ⟨by simp only; omega, ?_⟩, by simp only; omega, by simp [seB], rfl, rfl⟩)
  simp only
  rw [ht, h2]; unfold putL; simp
theorem Put_con (l : List Se) (h1 : l.length ≤ 1000) (h2 : ∀ s ∈ l, SeOk s) : Con Try.prog 13 [.slice (some ⟨0, 0, none⟩) l.length 2] [gRo seC l] (.slice (some ⟨1, 0, none⟩) (l.length * 6) 1) [gRo seC l, bOwn (putL l)] := by
  rw [← putL_len]
  refine con_vc (E := E0) mixed (calls_envN _) (lok_envN _) (M := mPut) (lm_one Put_piece) (Put_vc l _) ?_
  simp only [ofNat_eq, toNat_cast, Nat.zero_add, Nat.add_zero, Nat.mul_one, List.drop_zero, bCells_len, bCells_drop, bCells_take, bCells_app, bCells_one, bCells_plain, List.length_replicate, List.length_append, List.length_take, List.length_drop, List.take_length, and_true, true_and, and_self, decide_true, List.length_nil, List.length_cons, Nat.sub_zero, dB_mk, dB_ro, List.take_zero, sePl, seL, seTake]
  exact ⟨l, ⟨h1, h2⟩, rfl, rfl, rfl, fun y hy => by subst hy; exact ⟨rfl, rfl, rfl⟩⟩
theorem ePut_ok : EntOk Try.prog ePut := entC_ok (by
  intro a rows p v news h hp
  split at h <;> simp only [Option.some.injEq, Prod.mk.injEq, reduceCtorEq] at h
  obtain ⟨rfl, rfl, rfl⟩ := h
  obtain ⟨⟨l, rfl, rfl⟩, h1, h2⟩ := hp
  simp only [putC, AllOk, dSe, show ∀ l, decS (gRo seC l).cells = l from decS_cells] at h2 ⊢
  exact Put_con l h1 h2)
theorem eWi_ok : EntOk Try.prog eWi := entC_ok (by
  intro a rows p v news h hp
  split at h <;> simp only [Option.some.injEq, Prod.mk.injEq, reduceCtorEq] at h
  obtain ⟨rfl, rfl, rfl⟩ := h
  exact Go.Proofs.Ytocehonfnpjcjaa.tk.within_con _ _ _ hp.1 hp.2.1 hp.2.2.1 hp.2.2.2)
theorem eRuns_ok : EntOk Try.prog eRuns := entC_ok (by
  intro a rows p v news h hp
  split at h <;> simp only [Option.some.injEq, Prod.mk.injEq, reduceCtorEq] at h
  obtain ⟨rfl, rfl, rfl⟩ := h
  exact con_run mixed (n := 1000000) (by kernel_rfl) (by kernel_rfl))
theorem tBk_ok : ∀ x ∈ tBk, EntOk Try.prog x := all_cons ePut_ok (all_cons eOf_ok (all_cons eSaS_ok (all_cons eVal_ok (all_cons eWi_ok (all_cons eRuns_ok (all_nil))))))
theorem Bk_piece : PieceOk EtBk 1 (6, pBk, specBk) := by
  refine piece_loop mixed (calls_envT tBk_ok) (lok_envT _ _) lm_none (n := 60) (by kernel_rfl) (fun _ : List Se => (⟨[], 0, 0⟩ : StBk)) (fun l s => s.i ≤ l.length ∧ s.i ≤ 40 ∧ s.own = (l.take s.i).map insE ∧ s.co = seErr s.own) (fun l s => l.length - s.i) (sl := slBk) (rl := fun l s => rlBk l s.own) (fun l hg => ⟨Nat.zero_le _, Nat.zero_le _, rfl, rfl⟩) (fun l s hg hi => ?_)
  refine (Bk_round l s _ _).mpr ?_
  obtain ⟨own, co, i⟩ := s
  obtain ⟨g1, g2⟩ := hg
  obtain ⟨h1, h2, h3, h4⟩ := hi
  simp only at h1 h2 h3 h4
  simp only [ofNat_eq, toNat_cast, Nat.zero_add, Nat.add_zero, Nat.mul_one, List.drop_zero, bCells_len, bCells_drop, bCells_take, bCells_app, bCells_one, bCells_plain, List.length_replicate, List.length_append, List.length_take, List.length_drop, List.take_length, and_true, true_and, and_self, decide_true, List.length_nil, List.length_cons, Nat.sub_zero, dB_mk, dB_ro, List.take_zero, sePl, seL, seTake]
  have ho : own.length = i := by rw [h3]; simp; omega
  have hend : (¬ (i : Int) < l.length ∨ ¬ (i : Int) < 40) → own = ownL l := fun h => by
    unfold ownL; rw [h3]
    rcases h with h | h
    · have : i = l.length := by omega
      rw [List.take_of_length_le (by omega), List.take_of_length_le (by omega)]
    · have : i = 40 := by omega
      rw [this]
  refine br_if (fun h => br_if (fun h40 => br_dec (by omega) ?_) (fun h40 => ⟨own, hend (.inr h40), rfl, h4.symm, rfl⟩)) (fun h => ⟨own, hend (.inl h), rfl, h4.symm, rfl⟩)
  have hi : i < l.length := by omega
  obtain ⟨c1, c2, c3, c4⟩ := seGet l i hi
  have w := i64_succ (show i < 9223372036854775807 by omega)
  have ht : l.take (i + 1) = l.take i ++ [l[i]] := List.take_succ_eq_append_getElem hi
  obtain ⟨i1, i2⟩ := g2 l[i] (List.getElem_mem hi)
  have one : [Value.int .i64 (Go.Proofs.Ytocehonfnpjcjaa.tk.inside l[i].i 0 65535), Value.int .i64 (Go.Proofs.Ytocehonfnpjcjaa.tk.inside l[i].v 0 4294967295)] = gC seC [insE l[i]] := rfl
  simp only [c1, c2, c3, c4, w, true_and, one, gC_app]
  have nx : own ++ [insE l[i]] = (l.take (i + 1)).map insE := by rw [ht, h3, List.map_append]; rfl
  have ev : valI (Go.Proofs.Ytocehonfnpjcjaa.tk.inside l[i].i 0 65535) (Go.Proofs.Ytocehonfnpjcjaa.tk.inside l[i].v 0 4294967295) = valI (insE l[i]).i (insE l[i]).v := rfl
  refine ⟨⟨i1, by omega, by omega, by omega⟩, br_dec (by omega) ⟨⟨i2, by omega, by omega, by omega⟩, br_dec (by omega) (br_dec (by omega) (br_intro (fun k => ?_) (fun k => ?_)))⟩⟩
  · have k : co = 0 := by simpa using k
    refine ⟨⟨own ++ [insE l[i]], valI (insE l[i]).i (insE l[i]).v, i + 1⟩, ⟨by simp only; omega, by simp only; omega, nx, ?_⟩, by simp only; omega, by simp, ev.symm, rfl, rfl⟩
    simp only
    rw [seErr_app, ← h4, k, if_pos rfl, seErr]
    generalize valI (insE l[i]).i (insE l[i]).v = z
    by_cases hz : z = 0
    · rw [if_pos hz, hz]; rfl
    · rw [if_neg hz]
  · have k : ¬ co = 0 := by simpa using k
    refine ⟨⟨own ++ [insE l[i]], co, i + 1⟩, ⟨by simp only; omega, by simp only; omega, nx, ?_⟩, by simp only; omega, by simp, rfl, rfl, rfl⟩
    simp only
    rw [seErr_app, ← h4, if_neg k]
theorem se_back (l : List Se) (hl : l.length ≤ maxLen) (hs : ∀ x ∈ l, I64 x.i ∧ I64 x.v) : Con Try.prog 6 [.slice (some ⟨0, 0, none⟩) l.length 2] [gRo seC l] (.bool true) [gRo seC l] := by
  refine con_vc (E := EtBk) mixed (calls_envT tBk_ok) (lok_envT _ _) (M := mBk) (lm_one Bk_piece) (Bk_vc l) ?_
  simp only [ofNat_eq, toNat_cast, Nat.zero_add, Nat.add_zero, Nat.mul_one, List.drop_zero, bCells_len, bCells_drop, bCells_take, bCells_app, bCells_one, bCells_plain, List.length_replicate, List.length_append, List.length_take, List.length_drop, List.take_length, and_true, true_and, and_self, decide_true, List.length_nil, List.length_cons, Nat.sub_zero, dB_mk, dB_ro, List.take_zero, sePl, seL, seTake]
  have hm : maxLen = 9223372036854775807 := by unfold maxLen; rfl
  refine ⟨l, ⟨by omega, hs⟩, rfl, rfl, fun y hy => ?_⟩
  have hyl : y.length ≤ 40 := by rw [hy]; unfold ownL; simp; omega
  have hyo : ∀ s ∈ y, SeOk s := by
    intro s hsy
    rw [hy] at hsy
    obtain ⟨x, _, rfl⟩ := List.mem_map.1 hsy
    exact ⟨(Go.Proofs.Ytocehonfnpjcjaa.tk.inside_in _ _ _ (by omega)).1, (Go.Proofs.Ytocehonfnpjcjaa.tk.inside_in _ _ _ (by omega)).2, (Go.Proofs.Ytocehonfnpjcjaa.tk.inside_in _ _ _ (by omega)).1, (Go.Proofs.Ytocehonfnpjcjaa.tk.inside_in _ _ _ (by omega)).2⟩
  clear hy
  have ec : putC ⟨gC seC y, true, .cells true⟩ = bCells (putL y) := by unfold putC dSe; rw [decS_cells]
  have ea : AllOk ⟨gC seC y, true, .cells true⟩ := by unfold AllOk dSe; rw [decS_cells]; exact hyo
  have bl := putL_len y
  have tk : List.take (y.length * 6) (bCells (putL y)) = bCells (putL y) := List.take_of_length_le (by rw [bCells_len]; omega)
  have ss := sets_put y hyo
  have hr : rightB 4 0 0 (putL y).length = true := by unfold rightB; simp; omega
  have bad : stBad 0 (putL y) = false := by
    unfold stBad
    rw [decide_eq_false (by omega), show bit 0 1 = false by decide]; rfl
  have es : stSc 0 (putL y) = if seErr y = 0 then 0 else 2 := by unfold stSc; rw [bad, ss]; rfl
  have ecd : stCd 0 (putL y) = seErr y := by unfold stCd; rw [bad, ss]; rfl
  have ese : stSe 0 (putL y) = seGood y := by unfold stSe; rw [bad, ss]; rfl
  have e0 : shO 4 0 0 (putL y) = pickO (if seErr y = 0 then 0 else 2) (seErr y) 0 (okO ⟨4, 0, false, false, bit 0 1, 0, 0, 0, 0⟩ [] (seGood y)) := by
    unfold shO
    rw [if_neg (by rw [hr]; simp), if_neg (by decide), ← es, ← ecd, ← ese]; rfl
  have ib : IsB ⟨bCells (putL y), true, .cells true⟩ (y.length * 6) := isB_mk _ _ bl.symm
  have isy : IsSe ⟨gC seC y, true, .cells true⟩ y.length := ⟨y, rfl, rfl⟩
  have ox : oXs 4 0 0 ⟨bCells (putL y), true, .cells true⟩ = (shO 4 0 0 (putL y)).sc ∧ oXc 4 0 0 ⟨bCells (putL y), true, .cells true⟩ = (shO 4 0 0 (putL y)).cd ∧ oXn 4 0 0 ⟨bCells (putL y), true, .cells true⟩ = (shO 4 0 0 (putL y)).sn ∧ oBc 4 0 0 ⟨bCells (putL y), true, .cells true⟩ = bCells (shO 4 0 0 (putL y)).b ∧ oSc 4 0 0 ⟨bCells (putL y), true, .cells true⟩ = gC seC (shO 4 0 0 (putL y)).se ∧ oSn 4 0 0 ⟨bCells (putL y), true, .cells true⟩ = (shO 4 0 0 (putL y)).se.length := by
    simp only [oXs, oXc, oXn, oBc, oSc, oSn, dB_mk, and_self]
  obtain ⟨o1, o2, o3, o4, o5, o6⟩ := ox
  have w6 : IntKind.i64.wrap (6 * (y.length : Int)) = ((y.length * 6 : Nat) : Int) := by rw [wr64_id (by unfold I64; omega)]; omega
  simp only [ec, tk, o1, o2, o3, o4, o5, o6, bCells_len, bl, bCells_plain, sePl, seTake, seL, w6]
  refine ⟨⟨Nat.le_refl _, trivial, isy, by omega, ea⟩, ⟨⟨Nat.le_refl _, trivial⟩, ⟨trivial, trivial⟩, ib, by omega⟩, br_intro (fun k => ?_) (fun k => ?_)⟩
  · have k : ¬ seErr y = 0 := by simpa using k
    rw [e0, if_neg k]
    refine br_b (by simp [pickO, badO]) trivial
  · have k : seErr y = 0 := by simpa using k
    have gy : seGood y = y := seGood_all y k
    rw [e0, if_pos k, gy, k]
    simp only [pickO, if_pos, okO, seTake, seL]
    refine br_b (by simp) (br_b (by simp) ?_)
    exact ⟨⟨⟨⟨Nat.le_refl _, trivial⟩, Nat.le_refl _⟩, isy, isy, by omega, trivial⟩, trivial⟩
theorem q_se {Q : Nat → Prop} {n : Nat} {cells : List Value} (h : ElemsQ Q [.i .i64, .i .i64] n cells) : ∃ l : List Se, l.length = n ∧ cells = gC seC l ∧ ∀ a ∈ l, I64 a.i ∧ I64 a.v := by
  obtain ⟨l, h1, h2, h3⟩ := h.data (α := Se) seC (fun a => I64 a.i ∧ I64 a.v) (fun c hc => by
    match c, hc with
    | [x, y], hc =>
      obtain ⟨c1, c2, _⟩ := hc
      obtain ⟨s, rfl, w1⟩ := cq_i c1
      obtain ⟨t, rfl, w2⟩ := cq_i c2
      exact ⟨⟨s, t⟩, rfl, Sy.wf64 w1, Sy.wf64 w2⟩)
  exact ⟨l, h1, h2, h3⟩
end Go.Proofs.Ytocehonfnpjcjaa.sh
