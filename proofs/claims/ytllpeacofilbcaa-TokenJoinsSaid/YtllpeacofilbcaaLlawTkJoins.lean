/- The law: tokens with commas between are split again; with an open quote behind them nothing is told. -/
import Derived.Test.YtllpeacofilbcaaSz9
import Derived.Test.YtllpeacofilbcaaRows
import Derived.Test.YtllpeacofilbcaaLtkToken
import Derived.Test.YtllpeacofilbcaaLtkSplit
import Derived.Test.YtllpeacofilbcaaLtkShort
import Derived.Test.YtllpeacofilbcaaLtkfacts
import Derived.Test.YtllpeacofilbcaaLsbook
import Derived.Test.YtllpeacofilbcaaLints
import Derived.Test.YtllpeacofilbcaaLbrt
set_option linter.unusedSimpArgs false
set_option linter.unusedVariables false
namespace Go.Proofs.Ytllpeacofilbcaa.tk
open Go Go.Ev Go.Sy Go.RowKit Go.Proofs.Ytllpeacofilbcaa.gl Go.Proofs.Ytllpeacofilbcaa.sb Go.Proofs.Ytllpeacofilbcaa.ic
def cTj : FuncId → List Value → List Row → Option (Prop × Value × List Row)
  | 21, [.string s], [] => some ((L s).length ≤ maxLen, .bool (tokS s), [])
  | 20, [.string s], [] => some ((L s).length ≤ maxLen, .string (shortS s), [])
  | 9, [.string s], [] => some ((L s).length ≤ 16777000, .tuple #[.slice (some ⟨0, 0, none⟩) (elN s) 1, .bool (okS s)], [⟨elC s, false, .cells true⟩])
  | 12, [.slice (some ⟨0, 0, none⟩) n 1, .slice (some ⟨1, 0, none⟩) m 1], [r0, r1] => some (IsS r0 n ∧ IsS r1 m ∧ n ≤ maxLen, .bool (sameR r0 r1), [])
  | 3, [], [] => some (True, .bool true, [])
  | _, _, _ => none
def kTj (f : FuncId) : Bool := Nat.beq f 21 || Nat.beq f 9 || Nat.beq f 20 || Nat.beq f 12 || Nat.beq f 3
noncomputable abbrev ETj : Env := envC Try.prog cTj kTj
structure Seg where
  p : Bool
  x : List UInt8
def padL (b : Bool) : List UInt8 := if b then [32, 9] else []
def segL (s : Seg) : List UInt8 := padL s.p ++ s.x ++ padL s.p ++ [44]
def joinT (l : List Seg) : List UInt8 := l.flatMap segL
def wantT (l : List Seg) : List (List UInt8) := (l.map Seg.x).filter (· ≠ [])
def SegOk (l : List Seg) : Prop := ∀ s ∈ l, s.x = [] ∨ tokL s.x = true
structure GTj where
  l : List (List UInt8)
  b : List Int
structure StTj where
  line : List UInt8
  want : List (List UInt8)
  i : Nat
  segs : List Seg
def pTj : List Nat := [0, 1, 0, 1, 1, 1]
def slTj (g : GTj) (s : StTj) : List (Nat × Value) := [(0, .slice (some ⟨0, 0, none⟩) g.l.length 1), (1, slc 1 g.b.length), (5, .string (bs s.line)), (6, .slice (some ⟨2, 0, none⟩) s.want.length 1), (7, .int .i64 (s.i : Nat))]
def rlTj (g : GTj) (s : StTj) : List (Nat × Row) := [(0, gRo enS g.l), (1, iRo .i64 g.b), (2, gOwn enS s.want)]
def wsTj (g : GTj) : List (Gate StTj) := [⟨.exit 0, fun s => s.line = joinT s.segs ∧ s.want = wantT s.segs ∧ s.line.length ≤ 6200 ∧ s.want.length ≤ 20 ∧ SegOk s.segs, fun s => [(5, .string (bs s.line)), (6, .slice (some ⟨2, 0, none⟩) s.want.length 1)], fun s => [(0, gRo enS g.l), (1, iRo .i64 g.b), (2, gOwn enS s.want)], 3⟩]
def specTj : Sy.Spec := specOf 2 3 91 (fun g : GTj => g.l.length ≤ maxLen ∧ (∀ x ∈ g.l, x.length ≤ maxLen) ∧ g.b.length ≤ maxLen) (fun g => slTj g ⟨[], [], 0, []⟩) (fun g => rlTj g ⟨[], [], 0, []⟩) wsTj
def mTj := mOf [(6, pTj, specTj)]
theorem Tj_round (g : GTj) (s : StTj) (Inv : StTj → Prop) (m : StTj → Nat) : mev ETj noM 60 6 (0 :: pTj) false (codeOf Try.prog 6 (0 :: pTj)) ⟨mkOv (slTj g s), 91, []⟩ none ⟨mkR (rlTj g s), 3⟩ (roundK 2 3 91 Inv m (slTj g) (rlTj g) (wsTj g) s) =
  (br (decide ((↑s.3 : Int) < Int.ofNat (List.length g.1)))
   (br (decide ((↑s.3 : Int) < (20 : Int)))
    (br (decide ((0 : Int) ≤ (↑s.3 : Int) ∧ (↑s.3 : Int) < (↑(List.length g.1) : Int)))
     ((Eq (α := Option Value) ((gC enS g.1)[(0 : Nat) + Int.toNat (↑s.3 : Int) * (1 : Nat)]?) (some (Value.string (cellS (gC enS g.1) ((0 : Nat) + Int.toNat (↑s.3 : Int) * (1 : Nat)))))) ∧
     ((((True ∧ True) ∧ (True ∧ List.length (L (cellS (gC enS g.1) ((0 : Nat) + Int.toNat (↑s.3 : Int) * (1 : Nat)))) ≤ (9223372036854775807 : Nat)))) ∧
     (br (!strEq (shortS (cellS (gC enS g.1) ((0 : Nat) + Int.toNat (↑s.3 : Int) * (1 : Nat)))) (ByteArray.mk #[]))
      ((((True ∧ True) ∧ (True ∧ List.length (L (shortS (cellS (gC enS g.1) ((0 : Nat) + Int.toNat (↑s.3 : Int) * (1 : Nat))))) ≤ (9223372036854775807 : Nat)))) ∧
      (br (!tokS (shortS (cellS (gC enS g.1) ((0 : Nat) + Int.toNat (↑s.3 : Int) * (1 : Nat)))))
       (∃ j : StTj, ((Inv j) ∧
       ((m j < m s) ∧
       (((0 : Nat) = (0 : Nat)) ∧
       ((List.length g.1 = List.length g.1) ∧
       (((0 : Nat) = (0 : Nat)) ∧
       ((List.length g.2 = List.length g.2) ∧
       ((bs j.1 = bs s.1) ∧
       (((0 : Nat) = (0 : Nat)) ∧
       ((List.length j.2 = List.length s.2) ∧
       (((↑j.3 : Int) = IntKind.wrap IntKind.i64 ((↑s.3 : Int) + (1 : Int))) ∧
       ((Eq (α := List Value) (gC enS g.1) (gC enS g.1)) ∧
       ((Plain (gC enS g.1)) ∧
       ((Eq (α := List Value) (iCells IntKind.i64 g.2) (iCells IntKind.i64 g.2)) ∧
       ((Plain (iCells IntKind.i64 g.2)) ∧
       ((Eq (α := List Value) (gC enS j.2) (gC enS s.2)) ∧
       ((Plain (gC enS j.2)) ∧
       True)))))))))))))))))
       (br (!strEq (shortS (cellS (gC enS g.1) ((0 : Nat) + Int.toNat (↑s.3 : Int) * (1 : Nat)))) (ByteArray.mk #[]))
        (br (decide (List.length s.2 + (1 : Nat) ≤ (16777216 : Nat)))
         (br (decide ((0 : Nat) + List.length s.2 * (1 : Nat) ≤ List.length (gC enS s.2)))
          (br (decide ((↑s.3 : Int) < Int.ofNat (List.length g.2)))
           (br (decide ((0 : Int) ≤ (↑s.3 : Int) ∧ (↑s.3 : Int) < (↑(List.length g.2) : Int)))
            ((Eq (α := Option Value) ((iCells IntKind.i64 g.2)[(0 : Nat) + Int.toNat (↑s.3 : Int) * (1 : Nat)]?) (some (Value.int IntKind.i64 (cellI (iCells IntKind.i64 g.2) ((0 : Nat) + Int.toNat (↑s.3 : Int) * (1 : Nat)))))) ∧
            (br (Int.tmod (cellI (iCells IntKind.i64 g.2) ((0 : Nat) + Int.toNat (↑s.3 : Int) * (1 : Nat))) (2 : Int) == (0 : Int))
             (br (decide (List.length (Array.toList (ByteArray.data (bs s.1))) + (2 : Nat) ≤ (9223372036854775807 : Nat)))
              (br (decide (List.length (Array.toList (ByteArray.data (bs s.1)) ++ [(32 : UInt8), (9 : UInt8)]) + List.length (Array.toList (ByteArray.data (shortS (cellS (gC enS g.1) ((0 : Nat) + Int.toNat (↑s.3 : Int) * (1 : Nat)))))) ≤ (9223372036854775807 : Nat)))
               (br (decide (List.length (Array.toList (ByteArray.data (bs s.1)) ++ [(32 : UInt8), (9 : UInt8)] ++ Array.toList (ByteArray.data (shortS (cellS (gC enS g.1) ((0 : Nat) + Int.toNat (↑s.3 : Int) * (1 : Nat)))))) + (2 : Nat) ≤ (9223372036854775807 : Nat)))
                (br (decide (List.length (Array.toList (ByteArray.data (bs s.1)) ++ [(32 : UInt8), (9 : UInt8)] ++ Array.toList (ByteArray.data (shortS (cellS (gC enS g.1) ((0 : Nat) + Int.toNat (↑s.3 : Int) * (1 : Nat))))) ++ [(32 : UInt8), (9 : UInt8)]) + (1 : Nat) ≤ (9223372036854775807 : Nat)))
                 (∃ j : StTj, ((Inv j) ∧
                 ((m j < m s) ∧
                 (((0 : Nat) = (0 : Nat)) ∧
                 ((List.length g.1 = List.length g.1) ∧
                 (((0 : Nat) = (0 : Nat)) ∧
                 ((List.length g.2 = List.length g.2) ∧
                 ((bs j.1 = bs s.1 ++ ByteArray.mk #[(32 : UInt8), (9 : UInt8)] ++ shortS (cellS (gC enS g.1) ((0 : Nat) + Int.toNat (↑s.3 : Int) * (1 : Nat))) ++ ByteArray.mk #[(32 : UInt8), (9 : UInt8)] ++ ByteArray.mk #[(44 : UInt8)]) ∧
                 (((0 : Nat) = (0 : Nat)) ∧
                 ((List.length j.2 = List.length s.2 + (1 : Nat)) ∧
                 (((↑j.3 : Int) = IntKind.wrap IntKind.i64 ((↑s.3 : Int) + (1 : Int))) ∧
                 ((Eq (α := List Value) (gC enS g.1) (gC enS g.1)) ∧
                 ((Plain (gC enS g.1)) ∧
                 ((Eq (α := List Value) (iCells IntKind.i64 g.2) (iCells IntKind.i64 g.2)) ∧
                 ((Plain (iCells IntKind.i64 g.2)) ∧
                 ((Eq (α := List Value) (gC enS j.2) (List.take (List.length s.2 * (1 : Nat)) (List.drop (0 : Nat) (gC enS s.2)) ++ [Value.string (shortS (cellS (gC enS g.1) ((0 : Nat) + Int.toNat (↑s.3 : Int) * (1 : Nat))))])) ∧
                 ((Plain (gC enS j.2)) ∧
                 True)))))))))))))))))
                 False)
                False)
               False)
              False)
             (br (decide (List.length (Array.toList (ByteArray.data (bs s.1))) + (0 : Nat) ≤ (9223372036854775807 : Nat)))
              (br (decide (List.length (Array.toList (ByteArray.data (bs s.1)) ++ []) + List.length (Array.toList (ByteArray.data (shortS (cellS (gC enS g.1) ((0 : Nat) + Int.toNat (↑s.3 : Int) * (1 : Nat)))))) ≤ (9223372036854775807 : Nat)))
               (br (decide (List.length (Array.toList (ByteArray.data (bs s.1)) ++ [] ++ Array.toList (ByteArray.data (shortS (cellS (gC enS g.1) ((0 : Nat) + Int.toNat (↑s.3 : Int) * (1 : Nat)))))) + (0 : Nat) ≤ (9223372036854775807 : Nat)))
                (br (decide (List.length (Array.toList (ByteArray.data (bs s.1)) ++ [] ++ Array.toList (ByteArray.data (shortS (cellS (gC enS g.1) ((0 : Nat) + Int.toNat (↑s.3 : Int) * (1 : Nat))))) ++ []) + (1 : Nat) ≤ (9223372036854775807 : Nat)))
                 (∃ j : StTj, ((Inv j) ∧
                 ((m j < m s) ∧
                 (((0 : Nat) = (0 : Nat)) ∧
                 ((List.length g.1 = List.length g.1) ∧
                 (((0 : Nat) = (0 : Nat)) ∧
                 ((List.length g.2 = List.length g.2) ∧
                 ((bs j.1 = bs s.1 ++ ByteArray.mk #[] ++ shortS (cellS (gC enS g.1) ((0 : Nat) + Int.toNat (↑s.3 : Int) * (1 : Nat))) ++ ByteArray.mk #[] ++ ByteArray.mk #[(44 : UInt8)]) ∧
                 (((0 : Nat) = (0 : Nat)) ∧
                 ((List.length j.2 = List.length s.2 + (1 : Nat)) ∧
                 (((↑j.3 : Int) = IntKind.wrap IntKind.i64 ((↑s.3 : Int) + (1 : Int))) ∧
                 ((Eq (α := List Value) (gC enS g.1) (gC enS g.1)) ∧
                 ((Plain (gC enS g.1)) ∧
                 ((Eq (α := List Value) (iCells IntKind.i64 g.2) (iCells IntKind.i64 g.2)) ∧
                 ((Plain (iCells IntKind.i64 g.2)) ∧
                 ((Eq (α := List Value) (gC enS j.2) (List.take (List.length s.2 * (1 : Nat)) (List.drop (0 : Nat) (gC enS s.2)) ++ [Value.string (shortS (cellS (gC enS g.1) ((0 : Nat) + Int.toNat (↑s.3 : Int) * (1 : Nat))))])) ∧
                 ((Plain (gC enS j.2)) ∧
                 True)))))))))))))))))
                 False)
                False)
               False)
              False)))
            False)
           (br (decide (List.length (Array.toList (ByteArray.data (bs s.1))) + (0 : Nat) ≤ (9223372036854775807 : Nat)))
            (br (decide (List.length (Array.toList (ByteArray.data (bs s.1)) ++ []) + List.length (Array.toList (ByteArray.data (shortS (cellS (gC enS g.1) ((0 : Nat) + Int.toNat (↑s.3 : Int) * (1 : Nat)))))) ≤ (9223372036854775807 : Nat)))
             (br (decide (List.length (Array.toList (ByteArray.data (bs s.1)) ++ [] ++ Array.toList (ByteArray.data (shortS (cellS (gC enS g.1) ((0 : Nat) + Int.toNat (↑s.3 : Int) * (1 : Nat)))))) + (0 : Nat) ≤ (9223372036854775807 : Nat)))
              (br (decide (List.length (Array.toList (ByteArray.data (bs s.1)) ++ [] ++ Array.toList (ByteArray.data (shortS (cellS (gC enS g.1) ((0 : Nat) + Int.toNat (↑s.3 : Int) * (1 : Nat))))) ++ []) + (1 : Nat) ≤ (9223372036854775807 : Nat)))
               (∃ j : StTj, ((Inv j) ∧
               ((m j < m s) ∧
               (((0 : Nat) = (0 : Nat)) ∧
               ((List.length g.1 = List.length g.1) ∧
               (((0 : Nat) = (0 : Nat)) ∧
               ((List.length g.2 = List.length g.2) ∧
               ((bs j.1 = bs s.1 ++ ByteArray.mk #[] ++ shortS (cellS (gC enS g.1) ((0 : Nat) + Int.toNat (↑s.3 : Int) * (1 : Nat))) ++ ByteArray.mk #[] ++ ByteArray.mk #[(44 : UInt8)]) ∧
               (((0 : Nat) = (0 : Nat)) ∧
               ((List.length j.2 = List.length s.2 + (1 : Nat)) ∧
               (((↑j.3 : Int) = IntKind.wrap IntKind.i64 ((↑s.3 : Int) + (1 : Int))) ∧
               ((Eq (α := List Value) (gC enS g.1) (gC enS g.1)) ∧
               ((Plain (gC enS g.1)) ∧
               ((Eq (α := List Value) (iCells IntKind.i64 g.2) (iCells IntKind.i64 g.2)) ∧
               ((Plain (iCells IntKind.i64 g.2)) ∧
               ((Eq (α := List Value) (gC enS j.2) (List.take (List.length s.2 * (1 : Nat)) (List.drop (0 : Nat) (gC enS s.2)) ++ [Value.string (shortS (cellS (gC enS g.1) ((0 : Nat) + Int.toNat (↑s.3 : Int) * (1 : Nat))))])) ∧
               ((Plain (gC enS j.2)) ∧
               True)))))))))))))))))
               False)
              False)
             False)
            False))
          False)
         False)
        (br (decide ((↑s.3 : Int) < Int.ofNat (List.length g.2)))
         (br (decide ((0 : Int) ≤ (↑s.3 : Int) ∧ (↑s.3 : Int) < (↑(List.length g.2) : Int)))
          ((Eq (α := Option Value) ((iCells IntKind.i64 g.2)[(0 : Nat) + Int.toNat (↑s.3 : Int) * (1 : Nat)]?) (some (Value.int IntKind.i64 (cellI (iCells IntKind.i64 g.2) ((0 : Nat) + Int.toNat (↑s.3 : Int) * (1 : Nat)))))) ∧
          (br (Int.tmod (cellI (iCells IntKind.i64 g.2) ((0 : Nat) + Int.toNat (↑s.3 : Int) * (1 : Nat))) (2 : Int) == (0 : Int))
           (br (decide (List.length (Array.toList (ByteArray.data (bs s.1))) + (2 : Nat) ≤ (9223372036854775807 : Nat)))
            (br (decide (List.length (Array.toList (ByteArray.data (bs s.1)) ++ [(32 : UInt8), (9 : UInt8)]) + List.length (Array.toList (ByteArray.data (shortS (cellS (gC enS g.1) ((0 : Nat) + Int.toNat (↑s.3 : Int) * (1 : Nat)))))) ≤ (9223372036854775807 : Nat)))
             (br (decide (List.length (Array.toList (ByteArray.data (bs s.1)) ++ [(32 : UInt8), (9 : UInt8)] ++ Array.toList (ByteArray.data (shortS (cellS (gC enS g.1) ((0 : Nat) + Int.toNat (↑s.3 : Int) * (1 : Nat)))))) + (2 : Nat) ≤ (9223372036854775807 : Nat)))
              (br (decide (List.length (Array.toList (ByteArray.data (bs s.1)) ++ [(32 : UInt8), (9 : UInt8)] ++ Array.toList (ByteArray.data (shortS (cellS (gC enS g.1) ((0 : Nat) + Int.toNat (↑s.3 : Int) * (1 : Nat))))) ++ [(32 : UInt8), (9 : UInt8)]) + (1 : Nat) ≤ (9223372036854775807 : Nat)))
               (∃ j : StTj, ((Inv j) ∧
               ((m j < m s) ∧
               (((0 : Nat) = (0 : Nat)) ∧
               ((List.length g.1 = List.length g.1) ∧
               (((0 : Nat) = (0 : Nat)) ∧
               ((List.length g.2 = List.length g.2) ∧
               ((bs j.1 = bs s.1 ++ ByteArray.mk #[(32 : UInt8), (9 : UInt8)] ++ shortS (cellS (gC enS g.1) ((0 : Nat) + Int.toNat (↑s.3 : Int) * (1 : Nat))) ++ ByteArray.mk #[(32 : UInt8), (9 : UInt8)] ++ ByteArray.mk #[(44 : UInt8)]) ∧
               (((0 : Nat) = (0 : Nat)) ∧
               ((List.length j.2 = List.length s.2) ∧
               (((↑j.3 : Int) = IntKind.wrap IntKind.i64 ((↑s.3 : Int) + (1 : Int))) ∧
               ((Eq (α := List Value) (gC enS g.1) (gC enS g.1)) ∧
               ((Plain (gC enS g.1)) ∧
               ((Eq (α := List Value) (iCells IntKind.i64 g.2) (iCells IntKind.i64 g.2)) ∧
               ((Plain (iCells IntKind.i64 g.2)) ∧
               ((Eq (α := List Value) (gC enS j.2) (gC enS s.2)) ∧
               ((Plain (gC enS j.2)) ∧
               True)))))))))))))))))
               False)
              False)
             False)
            False)
           (br (decide (List.length (Array.toList (ByteArray.data (bs s.1))) + (0 : Nat) ≤ (9223372036854775807 : Nat)))
            (br (decide (List.length (Array.toList (ByteArray.data (bs s.1)) ++ []) + List.length (Array.toList (ByteArray.data (shortS (cellS (gC enS g.1) ((0 : Nat) + Int.toNat (↑s.3 : Int) * (1 : Nat)))))) ≤ (9223372036854775807 : Nat)))
             (br (decide (List.length (Array.toList (ByteArray.data (bs s.1)) ++ [] ++ Array.toList (ByteArray.data (shortS (cellS (gC enS g.1) ((0 : Nat) + Int.toNat (↑s.3 : Int) * (1 : Nat)))))) + (0 : Nat) ≤ (9223372036854775807 : Nat)))
              (br (decide (List.length (Array.toList (ByteArray.data (bs s.1)) ++ [] ++ Array.toList (ByteArray.data (shortS (cellS (gC enS g.1) ((0 : Nat) + Int.toNat (↑s.3 : Int) * (1 : Nat))))) ++ []) + (1 : Nat) ≤ (9223372036854775807 : Nat)))
               (∃ j : StTj, ((Inv j) ∧
               ((m j < m s) ∧
               (((0 : Nat) = (0 : Nat)) ∧
               ((List.length g.1 = List.length g.1) ∧
               (((0 : Nat) = (0 : Nat)) ∧
               ((List.length g.2 = List.length g.2) ∧
               ((bs j.1 = bs s.1 ++ ByteArray.mk #[] ++ shortS (cellS (gC enS g.1) ((0 : Nat) + Int.toNat (↑s.3 : Int) * (1 : Nat))) ++ ByteArray.mk #[] ++ ByteArray.mk #[(44 : UInt8)]) ∧
               (((0 : Nat) = (0 : Nat)) ∧
               ((List.length j.2 = List.length s.2) ∧
               (((↑j.3 : Int) = IntKind.wrap IntKind.i64 ((↑s.3 : Int) + (1 : Int))) ∧
               ((Eq (α := List Value) (gC enS g.1) (gC enS g.1)) ∧
               ((Plain (gC enS g.1)) ∧
               ((Eq (α := List Value) (iCells IntKind.i64 g.2) (iCells IntKind.i64 g.2)) ∧
               ((Plain (iCells IntKind.i64 g.2)) ∧
               ((Eq (α := List Value) (gC enS j.2) (gC enS s.2)) ∧
               ((Plain (gC enS j.2)) ∧
               True)))))))))))))))))
               False)
              False)
             False)
            False)))
          False)
         (br (decide (List.length (Array.toList (ByteArray.data (bs s.1))) + (0 : Nat) ≤ (9223372036854775807 : Nat)))
          (br (decide (List.length (Array.toList (ByteArray.data (bs s.1)) ++ []) + List.length (Array.toList (ByteArray.data (shortS (cellS (gC enS g.1) ((0 : Nat) + Int.toNat (↑s.3 : Int) * (1 : Nat)))))) ≤ (9223372036854775807 : Nat)))
           (br (decide (List.length (Array.toList (ByteArray.data (bs s.1)) ++ [] ++ Array.toList (ByteArray.data (shortS (cellS (gC enS g.1) ((0 : Nat) + Int.toNat (↑s.3 : Int) * (1 : Nat)))))) + (0 : Nat) ≤ (9223372036854775807 : Nat)))
            (br (decide (List.length (Array.toList (ByteArray.data (bs s.1)) ++ [] ++ Array.toList (ByteArray.data (shortS (cellS (gC enS g.1) ((0 : Nat) + Int.toNat (↑s.3 : Int) * (1 : Nat))))) ++ []) + (1 : Nat) ≤ (9223372036854775807 : Nat)))
             (∃ j : StTj, ((Inv j) ∧
             ((m j < m s) ∧
             (((0 : Nat) = (0 : Nat)) ∧
             ((List.length g.1 = List.length g.1) ∧
             (((0 : Nat) = (0 : Nat)) ∧
             ((List.length g.2 = List.length g.2) ∧
             ((bs j.1 = bs s.1 ++ ByteArray.mk #[] ++ shortS (cellS (gC enS g.1) ((0 : Nat) + Int.toNat (↑s.3 : Int) * (1 : Nat))) ++ ByteArray.mk #[] ++ ByteArray.mk #[(44 : UInt8)]) ∧
             (((0 : Nat) = (0 : Nat)) ∧
             ((List.length j.2 = List.length s.2) ∧
             (((↑j.3 : Int) = IntKind.wrap IntKind.i64 ((↑s.3 : Int) + (1 : Int))) ∧
             ((Eq (α := List Value) (gC enS g.1) (gC enS g.1)) ∧
             ((Plain (gC enS g.1)) ∧
             ((Eq (α := List Value) (iCells IntKind.i64 g.2) (iCells IntKind.i64 g.2)) ∧
             ((Plain (iCells IntKind.i64 g.2)) ∧
             ((Eq (α := List Value) (gC enS j.2) (gC enS s.2)) ∧
             ((Plain (gC enS j.2)) ∧
             True)))))))))))))))))
             False)
            False)
           False)
          False)))))
      (br (!strEq (shortS (cellS (gC enS g.1) ((0 : Nat) + Int.toNat (↑s.3 : Int) * (1 : Nat)))) (ByteArray.mk #[]))
       (br (decide (List.length s.2 + (1 : Nat) ≤ (16777216 : Nat)))
        (br (decide ((0 : Nat) + List.length s.2 * (1 : Nat) ≤ List.length (gC enS s.2)))
         (br (decide ((↑s.3 : Int) < Int.ofNat (List.length g.2)))
          (br (decide ((0 : Int) ≤ (↑s.3 : Int) ∧ (↑s.3 : Int) < (↑(List.length g.2) : Int)))
           ((Eq (α := Option Value) ((iCells IntKind.i64 g.2)[(0 : Nat) + Int.toNat (↑s.3 : Int) * (1 : Nat)]?) (some (Value.int IntKind.i64 (cellI (iCells IntKind.i64 g.2) ((0 : Nat) + Int.toNat (↑s.3 : Int) * (1 : Nat)))))) ∧
           (br (Int.tmod (cellI (iCells IntKind.i64 g.2) ((0 : Nat) + Int.toNat (↑s.3 : Int) * (1 : Nat))) (2 : Int) == (0 : Int))
            (br (decide (List.length (Array.toList (ByteArray.data (bs s.1))) + (2 : Nat) ≤ (9223372036854775807 : Nat)))
             (br (decide (List.length (Array.toList (ByteArray.data (bs s.1)) ++ [(32 : UInt8), (9 : UInt8)]) + List.length (Array.toList (ByteArray.data (shortS (cellS (gC enS g.1) ((0 : Nat) + Int.toNat (↑s.3 : Int) * (1 : Nat)))))) ≤ (9223372036854775807 : Nat)))
              (br (decide (List.length (Array.toList (ByteArray.data (bs s.1)) ++ [(32 : UInt8), (9 : UInt8)] ++ Array.toList (ByteArray.data (shortS (cellS (gC enS g.1) ((0 : Nat) + Int.toNat (↑s.3 : Int) * (1 : Nat)))))) + (2 : Nat) ≤ (9223372036854775807 : Nat)))
               (br (decide (List.length (Array.toList (ByteArray.data (bs s.1)) ++ [(32 : UInt8), (9 : UInt8)] ++ Array.toList (ByteArray.data (shortS (cellS (gC enS g.1) ((0 : Nat) + Int.toNat (↑s.3 : Int) * (1 : Nat))))) ++ [(32 : UInt8), (9 : UInt8)]) + (1 : Nat) ≤ (9223372036854775807 : Nat)))
                (∃ j : StTj, ((Inv j) ∧
                ((m j < m s) ∧
                (((0 : Nat) = (0 : Nat)) ∧
                ((List.length g.1 = List.length g.1) ∧
                (((0 : Nat) = (0 : Nat)) ∧
                ((List.length g.2 = List.length g.2) ∧
                ((bs j.1 = bs s.1 ++ ByteArray.mk #[(32 : UInt8), (9 : UInt8)] ++ shortS (cellS (gC enS g.1) ((0 : Nat) + Int.toNat (↑s.3 : Int) * (1 : Nat))) ++ ByteArray.mk #[(32 : UInt8), (9 : UInt8)] ++ ByteArray.mk #[(44 : UInt8)]) ∧
                (((0 : Nat) = (0 : Nat)) ∧
                ((List.length j.2 = List.length s.2 + (1 : Nat)) ∧
                (((↑j.3 : Int) = IntKind.wrap IntKind.i64 ((↑s.3 : Int) + (1 : Int))) ∧
                ((Eq (α := List Value) (gC enS g.1) (gC enS g.1)) ∧
                ((Plain (gC enS g.1)) ∧
                ((Eq (α := List Value) (iCells IntKind.i64 g.2) (iCells IntKind.i64 g.2)) ∧
                ((Plain (iCells IntKind.i64 g.2)) ∧
                ((Eq (α := List Value) (gC enS j.2) (List.take (List.length s.2 * (1 : Nat)) (List.drop (0 : Nat) (gC enS s.2)) ++ [Value.string (shortS (cellS (gC enS g.1) ((0 : Nat) + Int.toNat (↑s.3 : Int) * (1 : Nat))))])) ∧
                ((Plain (gC enS j.2)) ∧
                True)))))))))))))))))
                False)
               False)
              False)
             False)
            (br (decide (List.length (Array.toList (ByteArray.data (bs s.1))) + (0 : Nat) ≤ (9223372036854775807 : Nat)))
             (br (decide (List.length (Array.toList (ByteArray.data (bs s.1)) ++ []) + List.length (Array.toList (ByteArray.data (shortS (cellS (gC enS g.1) ((0 : Nat) + Int.toNat (↑s.3 : Int) * (1 : Nat)))))) ≤ (9223372036854775807 : Nat)))
              (br (decide (List.length (Array.toList (ByteArray.data (bs s.1)) ++ [] ++ Array.toList (ByteArray.data (shortS (cellS (gC enS g.1) ((0 : Nat) + Int.toNat (↑s.3 : Int) * (1 : Nat)))))) + (0 : Nat) ≤ (9223372036854775807 : Nat)))
               (br (decide (List.length (Array.toList (ByteArray.data (bs s.1)) ++ [] ++ Array.toList (ByteArray.data (shortS (cellS (gC enS g.1) ((0 : Nat) + Int.toNat (↑s.3 : Int) * (1 : Nat))))) ++ []) + (1 : Nat) ≤ (9223372036854775807 : Nat)))
                (∃ j : StTj, ((Inv j) ∧
                ((m j < m s) ∧
                (((0 : Nat) = (0 : Nat)) ∧
                ((List.length g.1 = List.length g.1) ∧
                (((0 : Nat) = (0 : Nat)) ∧
                ((List.length g.2 = List.length g.2) ∧
                ((bs j.1 = bs s.1 ++ ByteArray.mk #[] ++ shortS (cellS (gC enS g.1) ((0 : Nat) + Int.toNat (↑s.3 : Int) * (1 : Nat))) ++ ByteArray.mk #[] ++ ByteArray.mk #[(44 : UInt8)]) ∧
                (((0 : Nat) = (0 : Nat)) ∧
                ((List.length j.2 = List.length s.2 + (1 : Nat)) ∧
                (((↑j.3 : Int) = IntKind.wrap IntKind.i64 ((↑s.3 : Int) + (1 : Int))) ∧
                ((Eq (α := List Value) (gC enS g.1) (gC enS g.1)) ∧
                ((Plain (gC enS g.1)) ∧
                ((Eq (α := List Value) (iCells IntKind.i64 g.2) (iCells IntKind.i64 g.2)) ∧
                ((Plain (iCells IntKind.i64 g.2)) ∧
                ((Eq (α := List Value) (gC enS j.2) (List.take (List.length s.2 * (1 : Nat)) (List.drop (0 : Nat) (gC enS s.2)) ++ [Value.string (shortS (cellS (gC enS g.1) ((0 : Nat) + Int.toNat (↑s.3 : Int) * (1 : Nat))))])) ∧
                ((Plain (gC enS j.2)) ∧
                True)))))))))))))))))
                False)
               False)
              False)
             False)))
           False)
          (br (decide (List.length (Array.toList (ByteArray.data (bs s.1))) + (0 : Nat) ≤ (9223372036854775807 : Nat)))
           (br (decide (List.length (Array.toList (ByteArray.data (bs s.1)) ++ []) + List.length (Array.toList (ByteArray.data (shortS (cellS (gC enS g.1) ((0 : Nat) + Int.toNat (↑s.3 : Int) * (1 : Nat)))))) ≤ (9223372036854775807 : Nat)))
            (br (decide (List.length (Array.toList (ByteArray.data (bs s.1)) ++ [] ++ Array.toList (ByteArray.data (shortS (cellS (gC enS g.1) ((0 : Nat) + Int.toNat (↑s.3 : Int) * (1 : Nat)))))) + (0 : Nat) ≤ (9223372036854775807 : Nat)))
             (br (decide (List.length (Array.toList (ByteArray.data (bs s.1)) ++ [] ++ Array.toList (ByteArray.data (shortS (cellS (gC enS g.1) ((0 : Nat) + Int.toNat (↑s.3 : Int) * (1 : Nat))))) ++ []) + (1 : Nat) ≤ (9223372036854775807 : Nat)))
              (∃ j : StTj, ((Inv j) ∧
              ((m j < m s) ∧
              (((0 : Nat) = (0 : Nat)) ∧
              ((List.length g.1 = List.length g.1) ∧
              (((0 : Nat) = (0 : Nat)) ∧
              ((List.length g.2 = List.length g.2) ∧
              ((bs j.1 = bs s.1 ++ ByteArray.mk #[] ++ shortS (cellS (gC enS g.1) ((0 : Nat) + Int.toNat (↑s.3 : Int) * (1 : Nat))) ++ ByteArray.mk #[] ++ ByteArray.mk #[(44 : UInt8)]) ∧
              (((0 : Nat) = (0 : Nat)) ∧
              ((List.length j.2 = List.length s.2 + (1 : Nat)) ∧
              (((↑j.3 : Int) = IntKind.wrap IntKind.i64 ((↑s.3 : Int) + (1 : Int))) ∧
              ((Eq (α := List Value) (gC enS g.1) (gC enS g.1)) ∧
              ((Plain (gC enS g.1)) ∧
              ((Eq (α := List Value) (iCells IntKind.i64 g.2) (iCells IntKind.i64 g.2)) ∧
              ((Plain (iCells IntKind.i64 g.2)) ∧
              ((Eq (α := List Value) (gC enS j.2) (List.take (List.length s.2 * (1 : Nat)) (List.drop (0 : Nat) (gC enS s.2)) ++ [Value.string (shortS (cellS (gC enS g.1) ((0 : Nat) + Int.toNat (↑s.3 : Int) * (1 : Nat))))])) ∧
              ((Plain (gC enS j.2)) ∧
              True)))))))))))))))))
              False)
             False)
            False)
           False))
         False)
        False)
       (br (decide ((↑s.3 : Int) < Int.ofNat (List.length g.2)))
        (br (decide ((0 : Int) ≤ (↑s.3 : Int) ∧ (↑s.3 : Int) < (↑(List.length g.2) : Int)))
         ((Eq (α := Option Value) ((iCells IntKind.i64 g.2)[(0 : Nat) + Int.toNat (↑s.3 : Int) * (1 : Nat)]?) (some (Value.int IntKind.i64 (cellI (iCells IntKind.i64 g.2) ((0 : Nat) + Int.toNat (↑s.3 : Int) * (1 : Nat)))))) ∧
         (br (Int.tmod (cellI (iCells IntKind.i64 g.2) ((0 : Nat) + Int.toNat (↑s.3 : Int) * (1 : Nat))) (2 : Int) == (0 : Int))
          (br (decide (List.length (Array.toList (ByteArray.data (bs s.1))) + (2 : Nat) ≤ (9223372036854775807 : Nat)))
           (br (decide (List.length (Array.toList (ByteArray.data (bs s.1)) ++ [(32 : UInt8), (9 : UInt8)]) + List.length (Array.toList (ByteArray.data (shortS (cellS (gC enS g.1) ((0 : Nat) + Int.toNat (↑s.3 : Int) * (1 : Nat)))))) ≤ (9223372036854775807 : Nat)))
            (br (decide (List.length (Array.toList (ByteArray.data (bs s.1)) ++ [(32 : UInt8), (9 : UInt8)] ++ Array.toList (ByteArray.data (shortS (cellS (gC enS g.1) ((0 : Nat) + Int.toNat (↑s.3 : Int) * (1 : Nat)))))) + (2 : Nat) ≤ (9223372036854775807 : Nat)))
             (br (decide (List.length (Array.toList (ByteArray.data (bs s.1)) ++ [(32 : UInt8), (9 : UInt8)] ++ Array.toList (ByteArray.data (shortS (cellS (gC enS g.1) ((0 : Nat) + Int.toNat (↑s.3 : Int) * (1 : Nat))))) ++ [(32 : UInt8), (9 : UInt8)]) + (1 : Nat) ≤ (9223372036854775807 : Nat)))
              (∃ j : StTj, ((Inv j) ∧
              ((m j < m s) ∧
              (((0 : Nat) = (0 : Nat)) ∧
              ((List.length g.1 = List.length g.1) ∧
              (((0 : Nat) = (0 : Nat)) ∧
              ((List.length g.2 = List.length g.2) ∧
              ((bs j.1 = bs s.1 ++ ByteArray.mk #[(32 : UInt8), (9 : UInt8)] ++ shortS (cellS (gC enS g.1) ((0 : Nat) + Int.toNat (↑s.3 : Int) * (1 : Nat))) ++ ByteArray.mk #[(32 : UInt8), (9 : UInt8)] ++ ByteArray.mk #[(44 : UInt8)]) ∧
              (((0 : Nat) = (0 : Nat)) ∧
              ((List.length j.2 = List.length s.2) ∧
              (((↑j.3 : Int) = IntKind.wrap IntKind.i64 ((↑s.3 : Int) + (1 : Int))) ∧
              ((Eq (α := List Value) (gC enS g.1) (gC enS g.1)) ∧
              ((Plain (gC enS g.1)) ∧
              ((Eq (α := List Value) (iCells IntKind.i64 g.2) (iCells IntKind.i64 g.2)) ∧
              ((Plain (iCells IntKind.i64 g.2)) ∧
              ((Eq (α := List Value) (gC enS j.2) (gC enS s.2)) ∧
              ((Plain (gC enS j.2)) ∧
              True)))))))))))))))))
              False)
             False)
            False)
           False)
          (br (decide (List.length (Array.toList (ByteArray.data (bs s.1))) + (0 : Nat) ≤ (9223372036854775807 : Nat)))
           (br (decide (List.length (Array.toList (ByteArray.data (bs s.1)) ++ []) + List.length (Array.toList (ByteArray.data (shortS (cellS (gC enS g.1) ((0 : Nat) + Int.toNat (↑s.3 : Int) * (1 : Nat)))))) ≤ (9223372036854775807 : Nat)))
            (br (decide (List.length (Array.toList (ByteArray.data (bs s.1)) ++ [] ++ Array.toList (ByteArray.data (shortS (cellS (gC enS g.1) ((0 : Nat) + Int.toNat (↑s.3 : Int) * (1 : Nat)))))) + (0 : Nat) ≤ (9223372036854775807 : Nat)))
             (br (decide (List.length (Array.toList (ByteArray.data (bs s.1)) ++ [] ++ Array.toList (ByteArray.data (shortS (cellS (gC enS g.1) ((0 : Nat) + Int.toNat (↑s.3 : Int) * (1 : Nat))))) ++ []) + (1 : Nat) ≤ (9223372036854775807 : Nat)))
              (∃ j : StTj, ((Inv j) ∧
              ((m j < m s) ∧
              (((0 : Nat) = (0 : Nat)) ∧
              ((List.length g.1 = List.length g.1) ∧
              (((0 : Nat) = (0 : Nat)) ∧
              ((List.length g.2 = List.length g.2) ∧
              ((bs j.1 = bs s.1 ++ ByteArray.mk #[] ++ shortS (cellS (gC enS g.1) ((0 : Nat) + Int.toNat (↑s.3 : Int) * (1 : Nat))) ++ ByteArray.mk #[] ++ ByteArray.mk #[(44 : UInt8)]) ∧
              (((0 : Nat) = (0 : Nat)) ∧
              ((List.length j.2 = List.length s.2) ∧
              (((↑j.3 : Int) = IntKind.wrap IntKind.i64 ((↑s.3 : Int) + (1 : Int))) ∧
              ((Eq (α := List Value) (gC enS g.1) (gC enS g.1)) ∧
              ((Plain (gC enS g.1)) ∧
              ((Eq (α := List Value) (iCells IntKind.i64 g.2) (iCells IntKind.i64 g.2)) ∧
              ((Plain (iCells IntKind.i64 g.2)) ∧
              ((Eq (α := List Value) (gC enS j.2) (gC enS s.2)) ∧
              ((Plain (gC enS j.2)) ∧
              True)))))))))))))))))
              False)
             False)
            False)
           False)))
         False)
        (br (decide (List.length (Array.toList (ByteArray.data (bs s.1))) + (0 : Nat) ≤ (9223372036854775807 : Nat)))
         (br (decide (List.length (Array.toList (ByteArray.data (bs s.1)) ++ []) + List.length (Array.toList (ByteArray.data (shortS (cellS (gC enS g.1) ((0 : Nat) + Int.toNat (↑s.3 : Int) * (1 : Nat)))))) ≤ (9223372036854775807 : Nat)))
          (br (decide (List.length (Array.toList (ByteArray.data (bs s.1)) ++ [] ++ Array.toList (ByteArray.data (shortS (cellS (gC enS g.1) ((0 : Nat) + Int.toNat (↑s.3 : Int) * (1 : Nat)))))) + (0 : Nat) ≤ (9223372036854775807 : Nat)))
           (br (decide (List.length (Array.toList (ByteArray.data (bs s.1)) ++ [] ++ Array.toList (ByteArray.data (shortS (cellS (gC enS g.1) ((0 : Nat) + Int.toNat (↑s.3 : Int) * (1 : Nat))))) ++ []) + (1 : Nat) ≤ (9223372036854775807 : Nat)))
            (∃ j : StTj, ((Inv j) ∧
            ((m j < m s) ∧
            (((0 : Nat) = (0 : Nat)) ∧
            ((List.length g.1 = List.length g.1) ∧
            (((0 : Nat) = (0 : Nat)) ∧
            ((List.length g.2 = List.length g.2) ∧
            ((bs j.1 = bs s.1 ++ ByteArray.mk #[] ++ shortS (cellS (gC enS g.1) ((0 : Nat) + Int.toNat (↑s.3 : Int) * (1 : Nat))) ++ ByteArray.mk #[] ++ ByteArray.mk #[(44 : UInt8)]) ∧
            (((0 : Nat) = (0 : Nat)) ∧
            ((List.length j.2 = List.length s.2) ∧
            (((↑j.3 : Int) = IntKind.wrap IntKind.i64 ((↑s.3 : Int) + (1 : Int))) ∧
            ((Eq (α := List Value) (gC enS g.1) (gC enS g.1)) ∧
            ((Plain (gC enS g.1)) ∧
            ((Eq (α := List Value) (iCells IntKind.i64 g.2) (iCells IntKind.i64 g.2)) ∧
            ((Plain (iCells IntKind.i64 g.2)) ∧
            ((Eq (α := List Value) (gC enS j.2) (gC enS s.2)) ∧
            ((Plain (gC enS j.2)) ∧
            True)))))))))))))))))
            False)
           False)
          False)
         False))))))
     False)
    (∃ y : StTj, (((Eq (α := List UInt8) (y.1) (joinT y.4) ∧ (Eq (α := List (List UInt8)) (y.2) (wantT y.4) ∧ (List.length y.1 ≤ (6200 : Nat) ∧ (List.length y.2 ≤ (20 : Nat) ∧ SegOk y.4))))) ∧
    ((bs y.1 = bs s.1) ∧
    (((0 : Nat) = (0 : Nat)) ∧
    ((List.length y.2 = List.length s.2) ∧
    ((Eq (α := List Value) (gC enS g.1) (gC enS g.1)) ∧
    ((Plain (gC enS g.1)) ∧
    ((Eq (α := List Value) (iCells IntKind.i64 g.2) (iCells IntKind.i64 g.2)) ∧
    ((Plain (iCells IntKind.i64 g.2)) ∧
    ((Eq (α := List Value) (gC enS y.2) (gC enS s.2)) ∧
    ((Plain (gC enS y.2)) ∧
    True))))))))))))
   (∃ y : StTj, (((Eq (α := List UInt8) (y.1) (joinT y.4) ∧ (Eq (α := List (List UInt8)) (y.2) (wantT y.4) ∧ (List.length y.1 ≤ (6200 : Nat) ∧ (List.length y.2 ≤ (20 : Nat) ∧ SegOk y.4))))) ∧
   ((bs y.1 = bs s.1) ∧
   (((0 : Nat) = (0 : Nat)) ∧
   ((List.length y.2 = List.length s.2) ∧
   ((Eq (α := List Value) (gC enS g.1) (gC enS g.1)) ∧
   ((Plain (gC enS g.1)) ∧
   ((Eq (α := List Value) (iCells IntKind.i64 g.2) (iCells IntKind.i64 g.2)) ∧
   ((Plain (iCells IntKind.i64 g.2)) ∧
   ((Eq (α := List Value) (gC enS y.2) (gC enS s.2)) ∧
   ((Plain (gC enS y.2)) ∧
   True)))))))))))) := by kernel_rfl
theorem Tj_vc (l : List (List UInt8)) (b : List Int) : mcall ETj mTj 60 6 [.slice (some ⟨0, 0, none⟩) l.length 1, slc 1 b.length] ⟨mkR (nums 0 [gRo enS l, iRo .i64 b]), 2⟩ (retIs 2 (.bool true) [gRo enS l, iRo .i64 b]) =
  (∃ g : GTj, ((List.length g.1 ≤ (9223372036854775807 : Nat) ∧ (∀ (x : List UInt8), x ∈ GTj.l g → List.length x ≤ maxLen) ∧ List.length g.2 ≤ (9223372036854775807 : Nat)) ∧
  (((0 : Nat) = (0 : Nat)) ∧
  ((List.length g.1 = List.length l) ∧
  (((0 : Nat) = (0 : Nat)) ∧
  ((List.length g.2 = List.length b) ∧
  ((bs (StTj.line (StTj.mk [] [] (0 : Nat) [])) = ByteArray.mk #[]) ∧
  (((0 : Nat) = (0 : Nat)) ∧
  (((0 : Int) = (0 : Int)) ∧
  ((Eq (α := List Value) (gC enS g.1) (gC enS l)) ∧
  ((Plain (gC enS g.1)) ∧
  ((Eq (α := List Value) (iCells IntKind.i64 g.2) (iCells IntKind.i64 b)) ∧
  ((Plain (iCells IntKind.i64 g.2)) ∧
  ((Eq (α := List Value) ([]) ([])) ∧
  (∀ (y : StTj), ((y.1 = joinT y.4 ∧ y.2 = wantT y.4 ∧ List.length y.1 ≤ (6200 : Nat) ∧ List.length y.2 ≤ (20 : Nat) ∧ SegOk y.4) →
  ((((True ∧ True) ∧ ((Plain (elC (bs y.1)) ∧ True) ∧ List.length (L (bs y.1)) ≤ (16777000 : Nat)))) ∧
  (br (decide (List.length (Array.toList (ByteArray.data (bs y.1))) + (1 : Nat) ≤ (9223372036854775807 : Nat)))
   ((((True ∧ True) ∧ ((Plain (elC (bs y.1 ++ ByteArray.mk #[(34 : UInt8)])) ∧ True) ∧ List.length (L (bs y.1 ++ ByteArray.mk #[(34 : UInt8)])) ≤ (16777000 : Nat)))) ∧
   (br (okS (bs y.1))
    ((((((0 : Nat) + elN (bs y.1) * (1 : Nat) ≤ List.length (elC (bs y.1)) ∧ Plain (List.take (elN (bs y.1) * (1 : Nat)) (List.drop (0 : Nat) (elC (bs y.1))))) ∧ (((0 : Nat) + List.length y.2 * (1 : Nat) ≤ List.length (gC enS y.2) ∧ Plain (List.take (List.length y.2 * (1 : Nat)) (List.drop (0 : Nat) (gC enS y.2)))) ∧ True)) ∧ (True ∧ (IsS (Row.mk (List.take (elN (bs y.1) * (1 : Nat)) (List.drop (0 : Nat) (elC (bs y.1)))) true (Ob.cells true)) (elN (bs y.1)) ∧ (IsS (Row.mk (List.take (List.length y.2 * (1 : Nat)) (List.drop (0 : Nat) (gC enS y.2))) true (Ob.cells true)) (List.length y.2) ∧ elN (bs y.1) ≤ (9223372036854775807 : Nat)))))) ∧
    (br (sameR (Row.mk (List.take (elN (bs y.1) * (1 : Nat)) (List.drop (0 : Nat) (elC (bs y.1)))) true (Ob.cells true)) (Row.mk (List.take (List.length y.2 * (1 : Nat)) (List.drop (0 : Nat) (gC enS y.2))) true (Ob.cells true)))
     (br (!okS (bs y.1 ++ ByteArray.mk #[(34 : UInt8)]))
      (br (Int.ofNat (elN (bs y.1 ++ ByteArray.mk #[(34 : UInt8)])) == (0 : Int))
       (((True ∧ (True ∧ True))) ∧
       ((true = true) ∧
       ((Eq (α := List Value) (gC enS l) (gC enS g.1)) ∧
       ((Plain (gC enS l)) ∧
       ((Eq (α := List Value) (iCells IntKind.i64 b) (iCells IntKind.i64 g.2)) ∧
       ((Plain (iCells IntKind.i64 b)) ∧
       True))))))
       ((true = false) ∧
       ((Eq (α := List Value) (gC enS l) (gC enS g.1)) ∧
       ((Plain (gC enS l)) ∧
       ((Eq (α := List Value) (iCells IntKind.i64 b) (iCells IntKind.i64 g.2)) ∧
       ((Plain (iCells IntKind.i64 b)) ∧
       True))))))
      ((true = false) ∧
      ((Eq (α := List Value) (gC enS l) (gC enS g.1)) ∧
      ((Plain (gC enS l)) ∧
      ((Eq (α := List Value) (iCells IntKind.i64 b) (iCells IntKind.i64 g.2)) ∧
      ((Plain (iCells IntKind.i64 b)) ∧
      True))))))
     ((true = false) ∧
     ((Eq (α := List Value) (gC enS l) (gC enS g.1)) ∧
     ((Plain (gC enS l)) ∧
     ((Eq (α := List Value) (iCells IntKind.i64 b) (iCells IntKind.i64 g.2)) ∧
     ((Plain (iCells IntKind.i64 b)) ∧
     True)))))))
    ((true = false) ∧
    ((Eq (α := List Value) (gC enS l) (gC enS g.1)) ∧
    ((Plain (gC enS l)) ∧
    ((Eq (α := List Value) (iCells IntKind.i64 b) (iCells IntKind.i64 g.2)) ∧
    ((Plain (iCells IntKind.i64 b)) ∧
    True)))))))
   False)))))))))))))))))) := by kernel_rfl
theorem cTj_ok : ∀ f a rows p v news, cTj f a rows = some (p, v, news) → p → Con Try.prog f a rows v (rows ++ news) := by
  intro f a rows p v news h hp
  have e : ∀ l, decS (gRo enS l).cells = l := fun l => decS_gC l
  unfold cTj at h
  split at h <;> simp only [Option.some.injEq, Prod.mk.injEq, reduceCtorEq] at h <;> obtain ⟨rfl, rfl, rfl⟩ := h
  · exact Tok_con (L _) hp
  · exact Sh_con (L _) hp
  · exact Sp_con (L _) hp
  · obtain ⟨⟨l, rfl, rfl⟩, ⟨k, rfl, rfl⟩, h2⟩ := hp
    simp only [sameR, e, List.append_nil]
    exact same_con l k h2
  · exact con_run mixed (n := 1000000) (by kernel_rfl) (by kernel_rfl)
theorem tk_no (n : Nat) : n < 256 → tokN n = true → n ≠ 34 ∧ n ≠ 92 ∧ n ≠ 44 ∧ spN n = false := by
  intro h ht
  refine ⟨?_, ?_, ?_, ?_⟩
  · rintro rfl; simp [tokN] at ht
  · rintro rfl; simp [tokN] at ht
  · rintro rfl; simp [tokN] at ht
  · unfold spN
    by_cases h1 : n = 32
    · subst h1; simp [tokN] at ht
    · by_cases h2 : n = 9
      · subst h2; simp [tokN] at ht
      · simp [h1, h2]
theorem tk_no8 (c : UInt8) (h : tokN c.toNat = true) : c ≠ 34 ∧ c ≠ 92 ∧ c ≠ 44 ∧ spC c = false := by
  obtain ⟨a, b, d, e⟩ := tk_no c.toNat c.toNat_lt h
  refine ⟨?_, ?_, ?_, e⟩ <;> (rintro rfl; simp at *)
theorem spl_ov (q : Bool) : ∀ (l cur r : List UInt8), (∀ c ∈ l, c ≠ 34 ∧ c ≠ 92 ∧ c ≠ 44) → spl q cur (l ++ r) = spl q (cur ++ l) r
  | [], cur, r, _ => by simp
  | c :: l, cur, r, h => by
    have h1 := h c (by simp)
    rw [List.cons_append, spl_o q cur (l ++ r) c h1.1 (by simp [h1.2.1]) (by simp [h1.2.2]), spl_ov q l _ r (fun x hx => h x (by simp [hx]))]
    simp
theorem tok_mem {x : List UInt8} (h : x = [] ∨ tokL x = true) : ∀ c ∈ x, tokN c.toNat = true := by
  intro c hc
  rcases h with rfl | h
  · simp at hc
  · unfold tokL allTk at h
    simp only [Bool.and_eq_true] at h
    exact List.all_eq_true.1 h.1 c hc
theorem dropW_sp (x r : List UInt8) (hx : x ≠ []) (h : ∀ c ∈ x, spC c = false) : (x ++ r).dropWhile spC = x ++ r := by
  cases x with
  | nil => exact absurd rfl hx
  | cons c x => rw [List.cons_append, List.dropWhile_cons_of_neg (by simp [h c (by simp)])]
theorem trim_pad (b : Bool) (x : List UInt8) (h : ∀ c ∈ x, spC c = false) : trimL (padL b ++ x ++ padL b) = x := by
  have s2 : spC 32 = true := by decide
  have s3 : spC 9 = true := by decide
  have hf : trimF (padL b ++ x ++ padL b) = if x = [] then [] else x ++ padL b := by
    unfold trimF
    cases b
    · simp only [padL]
      by_cases hx : x = []
      · simp [hx]
      · simpa [hx] using dropW_sp x [] hx h
    · simp only [padL]
      by_cases hx : x = []
      · simp [hx, s2, s3]
      · simpa [hx, s2, s3] using dropW_sp x [32, 9] hx h
  unfold trimL
  rw [hf]
  by_cases hx : x = []
  · rw [if_pos hx, hx]; rfl
  · rw [if_neg hx]
    unfold trimB
    have hr : ∀ c ∈ x.reverse, spC c = false := fun c hc => h c (List.mem_reverse.1 hc)
    have hrn : x.reverse ≠ [] := by simpa using hx
    cases b
    · simp only [padL, List.append_nil]
      have := dropW_sp x.reverse [] hrn hr
      rw [List.append_nil] at this
      simp [this]
    · simp only [padL]
      have := dropW_sp x.reverse [] hrn hr
      rw [List.append_nil] at this
      simp [s2, s3, this]
theorem pad_no (b : Bool) : ∀ c ∈ padL b, c ≠ 34 ∧ c ≠ 92 ∧ c ≠ 44 := by
  intro c hc
  cases b
  · simp [padL] at hc
  · simp [padL] at hc
    rcases hc with rfl | rfl <;> simp
theorem addEl_pad (b : Bool) (x : List UInt8) (h : ∀ c ∈ x, spC c = false) : addEl (padL b ++ x ++ padL b) = if x = [] then [] else [x] := by
  unfold addEl; rw [trim_pad b x h]
theorem spl_joinT (r : List UInt8) : ∀ l : List Seg, SegOk l → spl false [] (joinT l ++ r) = (spl false [] r).map fun z => wantT l ++ z
  | [], _ => by simp [joinT, wantT]
  | s :: l, h => by
    have ih := spl_joinT r l fun y hy => h y (by simp [hy])
    have ht := tok_mem (h s (by simp))
    have h1 : ∀ c ∈ padL s.p ++ s.x ++ padL s.p, c ≠ 34 ∧ c ≠ 92 ∧ c ≠ 44 := by
      intro c hc
      rw [List.mem_append, List.mem_append] at hc
      rcases hc with (hc | hc) | hc
      · exact pad_no _ _ hc
      · have := tk_no8 c (ht c hc); exact ⟨this.1, this.2.1, this.2.2.1⟩
      · exact pad_no _ _ hc
    rw [show joinT (s :: l) ++ r = (padL s.p ++ s.x ++ padL s.p) ++ (44 :: (joinT l ++ r)) by unfold joinT segL; rw [List.flatMap_cons]; simp]
    rw [spl_ov _ _ _ _ h1, spl_c _ _ _ _ (by decide) (by simp) (by simp), ih, List.nil_append, addEl_pad _ _ (fun c hc => (tk_no8 c (ht c hc)).2.2.2), Option.map_map]
    congr 1
    funext z
    simp only [Function.comp_apply, wantT, List.map_cons]
    by_cases hx : s.x = []
    · simp [hx]
    · simp [hx]
theorem wantT_app (a b : List Seg) : wantT (a ++ b) = wantT a ++ wantT b := by unfold wantT; simp
theorem joinT_app (a b : List Seg) : joinT (a ++ b) = joinT a ++ joinT b := by unfold joinT; rw [List.flatMap_append]
theorem Tj_piece : PieceOk ETj 2 (6, pTj, specTj) := by
  refine piece_loop mixed (calls_envC cTj_ok) (lok_envC _ _ _) lm_none (n := 60) (by kernel_rfl) (fun _ => (⟨[], [], 0, []⟩ : StTj)) (fun g s => s.i ≤ g.l.length ∧ s.i ≤ 20 ∧ s.want.length ≤ s.i ∧ s.line.length ≤ s.i * 305 ∧ s.line = joinT s.segs ∧ s.want = wantT s.segs ∧ SegOk s.segs) (fun g s => g.l.length - s.i) (sl := slTj) (rl := rlTj) (fun g hg => ⟨Nat.zero_le _, Nat.zero_le _, Nat.le_refl _, Nat.le_refl _, rfl, rfl, fun q hq => by simp at hq⟩) (fun g s hg hi => ?_)
  refine (Tj_round g s _ _).mpr ?_
  obtain ⟨line, want, i, segs⟩ := s
  obtain ⟨h1, h2, h3, h4, h5, h6, h7⟩ := hi
  obtain ⟨g1, g2, g3⟩ := hg
  have hm : maxLen = 9223372036854775807 := by unfold maxLen; rfl
  simp only at h1 h2 h3 h4 h5 h6 h7
  simp only [ofNat_eq, toNat_cast, Nat.zero_add, Nat.add_zero, Nat.mul_one, List.drop_zero, bCells_len, bCells_drop, bCells_take, bCells_app, bCells_one, bCells_plain, List.length_replicate, List.length_append, List.length_take, List.length_drop, List.take_length, and_true, true_and, and_self, decide_true, List.length_nil, List.length_cons, Nat.sub_zero, dB_mk, dB_ro, List.take_zero, sPl, sLen, bs_nil, iCells_plain, iCells_len]
  have hend : ∃ y : StTj, (y.line = joinT y.segs ∧ y.want = wantT y.segs ∧ y.line.length ≤ 6200 ∧ y.want.length ≤ 20 ∧ SegOk y.segs) ∧ bs y.line = bs line ∧ y.want.length = want.length ∧ gC enS y.want = gC enS want :=
    ⟨⟨line, want, i, segs⟩, ⟨h5, h6, by simp only; omega, by simp only; omega, h7⟩, rfl, rfl, rfl⟩
  refine br_if (fun h => br_if (fun h' => br_dec (by omega) ?_) (fun _ => hend)) (fun _ => hend)
  have hi : i < g.l.length := by omega
  obtain ⟨c1, c2⟩ := sGet g.l i hi
  have hx : g.l[i].length ≤ maxLen := g2 _ (List.getElem_mem hi)
  have w := i64_succ (show i < 9223372036854775807 by omega)
  simp only [c1, c2, shortS_bs, bs_len, w, strEq_bs, tokS_bs, bs_dd]
  obtain ⟨x, hxx⟩ : ∃ x, x = g.l[i].take 300 := ⟨_, rfl⟩
  have hx3 : x.length ≤ 300 := by rw [hxx, List.length_take]; omega
  rw [← hxx]
  clear hxx c1 c2
  simp (disch := omega) only [brT, show (⟨#[32, 9]⟩ : ByteArray) = bs [32, 9] from rfl, show (⟨#[44]⟩ : ByteArray) = bs [44] from rfl, bs_app, sTake, sOne1, gC_app]
  have pad : ∀ A B : Prop, A → B → br (decide ((i : Int) < (g.b.length : Int))) (br (decide (0 ≤ (i : Int) ∧ (i : Int) < (g.b.length : Int))) ((iCells IntKind.i64 g.b)[i]? = some (Value.int IntKind.i64 (cellI (iCells IntKind.i64 g.b) i)) ∧ br ((cellI (iCells IntKind.i64 g.b) i).tmod 2 == 0) A B) False) B := fun A B a b =>
    br_if (fun h => br_dec (by omega) ⟨iCells_at (by omega), br_intro (fun _ => a) (fun _ => b)⟩) (fun _ => b)
  have okS : ∀ p, (x = [] ∨ tokL x = true) → SegOk (segs ++ [⟨p, x⟩]) := fun p hx s hs => by
    rcases List.mem_append.1 hs with hs | hs
    · exact h7 s hs
    · rw [List.mem_singleton] at hs; subst hs; exact hx
  have full : ∀ p, x ≠ [] → tokL x = true → ∃ j : StTj, (j.i ≤ g.l.length ∧ j.i ≤ 20 ∧ j.want.length ≤ j.i ∧ j.line.length ≤ j.i * 305 ∧ j.line = joinT j.segs ∧ j.want = wantT j.segs ∧ SegOk j.segs) ∧
      g.l.length - j.i < g.l.length - i ∧ bs j.line = bs (line ++ padL p ++ x ++ padL p ++ [44]) ∧ j.want.length = want.length + 1 ∧ (j.i : Int) = ((i + 1 : Nat) : Int) ∧ gC enS j.want = gC enS (want ++ [x]) := fun p hne ht => by
    have hp : (padL p).length ≤ 2 := by cases p <;> simp [padL]
    refine ⟨⟨line ++ padL p ++ x ++ padL p ++ [44], want ++ [x], i + 1, segs ++ [⟨p, x⟩]⟩, ⟨by simp only; omega, by simp only; omega, by simp only [List.length_append, List.length_singleton]; omega, by simp only [List.length_append, List.length_singleton]; omega, ?_, ?_, okS p (Or.inr ht)⟩, by simp only; omega, rfl, by simp, rfl, rfl⟩
    · simp only; rw [joinT_app, h5]; simp [joinT, segL]
    · simp only; rw [wantT_app, h6]; simp [wantT, hne]
  have none : ∀ p, x = [] → ∃ j : StTj, (j.i ≤ g.l.length ∧ j.i ≤ 20 ∧ j.want.length ≤ j.i ∧ j.line.length ≤ j.i * 305 ∧ j.line = joinT j.segs ∧ j.want = wantT j.segs ∧ SegOk j.segs) ∧
      g.l.length - j.i < g.l.length - i ∧ bs j.line = bs (line ++ padL p ++ x ++ padL p ++ [44]) ∧ j.want.length = want.length ∧ (j.i : Int) = ((i + 1 : Nat) : Int) ∧ gC enS j.want = gC enS want := fun p hne => by
    have hp : (padL p).length ≤ 2 := by cases p <;> simp [padL]
    refine ⟨⟨line ++ padL p ++ x ++ padL p ++ [44], want, i + 1, segs ++ [⟨p, x⟩]⟩, ⟨by simp only; omega, by simp only; omega, by simp only; omega, by simp only [List.length_append, List.length_singleton]; omega, ?_, ?_, okS p (Or.inl hne)⟩, by simp only; omega, rfl, rfl, rfl, rfl⟩
    · simp only; rw [joinT_app, h5]; simp [joinT, segL]
    · simp only; rw [wantT_app, h6]; simp [wantT, hne]
  refine ⟨trivial, by omega, ?_⟩
  by_cases hne : x = []
  · refine br_nb (by simp [hne]) (br_nb (by simp [hne]) ?_)
    exact pad _ _ (none true hne) (none false hne)
  · refine br_b (by simp [hne]) ⟨by omega, br_intro (fun _ => ?_) (fun ht => br_b (by simp [hne]) ?_)⟩
    · exact ⟨⟨line, want, i + 1, segs⟩, ⟨by simp only; omega, by simp only; omega, by simp only; omega, Nat.le_trans h4 (Nat.mul_le_mul_right _ (Nat.le_succ _)), h5, h6, h7⟩, by simp only; omega, rfl, rfl, rfl, rfl⟩
    · have ht : tokL x = true := by simpa using ht
      exact pad _ _ (full true hne ht) (full false hne ht)
theorem tj_law (l : List (List UInt8)) (b : List Int) (hl : l.length ≤ maxLen) (hx : ∀ x ∈ l, x.length ≤ maxLen) (hb : b.length ≤ maxLen) (_ : ∀ x ∈ b, (Lit.int .i64 x).wf = true) : Con Try.prog 6 [.slice (some ⟨0, 0, none⟩) l.length 1, slc 1 b.length] [gRo enS l, iRo .i64 b] (.bool true) [gRo enS l, iRo .i64 b] := by
  refine con_vc (E := ETj) mixed (calls_envC cTj_ok) (lok_envC _ _ _) (M := mTj) (lm_one Tj_piece) (Tj_vc l b) ?_
  simp only [ofNat_eq, toNat_cast, Nat.zero_add, Nat.add_zero, Nat.mul_one, List.drop_zero, bCells_len, bCells_drop, bCells_take, bCells_app, bCells_one, bCells_plain, List.length_replicate, List.length_append, List.length_take, List.length_drop, List.take_length, and_true, true_and, and_self, decide_true, List.length_nil, List.length_cons, Nat.sub_zero, dB_mk, dB_ro, List.take_zero, sPl, sLen, bs_nil, iCells_plain]
  have hm : maxLen = 9223372036854775807 := by unfold maxLen; rfl
  refine ⟨⟨l, b⟩, ⟨by simp only; omega, hx, by simp only; omega⟩, rfl, rfl, rfl, rfl, fun y hy => ?_⟩
  obtain ⟨k1, k2, k3, k4, k5⟩ := hy
  have hs : splitL y.line = some y.want := by
    have := spl_joinT [] y.segs k5
    rw [List.append_nil, spl_nil] at this
    unfold splitL; rw [k1, this, k2]; simp [addEl, trimL, trimB, trimF]
  have hs2 : splitL (y.line ++ [34]) = none := by
    have := spl_joinT [34] y.segs k5
    rw [spl_q _ _ _ _ rfl, spl_nil] at this
    unfold splitL; rw [k1, this]; rfl
  have e1 : elSp y.line = y.want := by unfold elSp; rw [hs]; rfl
  have e2 : okSp y.line = true := by unfold okSp; rw [hs]; rfl
  have e3 : elSp (y.line ++ [34]) = [] := by unfold elSp; rw [hs2]; rfl
  have e4 : okSp (y.line ++ [34]) = false := by unfold okSp; rw [hs2]; rfl
  have hsm : ∀ a b o p, sameR ⟨gC enS y.want, a, o⟩ ⟨gC enS y.want, b, p⟩ = true := fun a b o p => by rw [sameR_gC]; simp
  simp only [show (⟨#[34]⟩ : ByteArray) = bs [34] from rfl, bs_app, elC_bs, elN_bs, okS_bs, e1, e2, e3, e4, bs_len, sTake, sLen, bs_dd, hsm]
  refine ⟨⟨sPl _, by omega⟩, br_dec (by omega) ⟨⟨sPl _, by simp; omega⟩, br_b rfl ⟨⟨⟨⟨by omega, sPl _⟩, ⟨by omega, sPl _⟩⟩, isS_mk _ _ rfl, isS_mk _ _ rfl, by omega⟩, br_b rfl (br_b rfl (br_b rfl ⟨trivial, trivial⟩))⟩⟩⟩
end Go.Proofs.Ytllpeacofilbcaa.tk
