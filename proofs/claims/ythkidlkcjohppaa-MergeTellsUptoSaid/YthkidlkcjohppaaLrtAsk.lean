/- The document's own request by which an entry is confirmed. -/
import Derived.Test.YthkidlkcjohppaaSz9
import Derived.Test.YthkidlkcjohppaaRows
import Derived.Test.YthkidlkcjohppaaLmgAsk
import Derived.Test.YthkidlkcjohppaaLrtAll
set_option linter.unusedSimpArgs false
set_option linter.unusedVariables false
namespace Go.Proofs.Ythkidlkcjohppaa.tk
open Go Go.Ev Go.Sy Go.RowKit Go.Proofs.Ythkidlkcjohppaa.gl
def cRk : FuncId → List Value → List Row → Option (Prop × Value × List Row)
  | 27, [.slice (some ⟨0, 0, none⟩) n 2, .string s], [r0] => some (IsF r0 n ∧ n ≤ maxLen ∧ alB r0 s ≤ 16777216, .tuple #[.string (alV r0 s), .int .i64 (alN r0 s)], [])
  | _, _, _ => none
noncomputable abbrev ERk : Env := envC Try.prog cRk (fun f => Nat.beq f 27)
def pRk : List Nat := [0, 1, 0, 1, 1, 1, 1, 1]
def slK0 (g : GAs) (acc : List Fl) : List (Nat × Value) := [(3, .pointer (some ⟨3, 0, none⟩)), (4, .pointer (some ⟨4, 0, none⟩)), (6, .string (bs g.tag)), (7, .bool g.tagged), (8, .string (bs g.chg)), (9, .bool g.changed), (10, .slice (some ⟨5, 0, none⟩) acc.length 2)]
def slRk (g : GAs) (s : StAs) : List (Nat × Value) := [(3, .pointer (some ⟨3, 0, none⟩)), (4, .pointer (some ⟨4, 0, none⟩)), (6, .string (bs g.tag)), (7, .bool g.tagged), (8, .string (bs g.chg)), (9, .bool g.changed), (10, .slice (some ⟨5, 0, none⟩) s.acc.length 2), (11, .int .i64 (s.i : Nat))]
def wsRk (g : GAs) : List (Gate (List Fl)) := [⟨.exit 0, fun a => a = keptL g.q, fun a => slK0 g a, fun a => rlA0 g a, 6⟩]
def specRk : Sy.Spec := specOf 3 6 76 (fun g : GAs => g.q.length ≤ 16777000) (fun g => slRk g ⟨0, []⟩) (fun g => rlAs g ⟨0, []⟩) wsRk
def mRk := mOf [(18, pRk, specRk)]
theorem Rk_round (g : GAs) (s : StAs) (Inv : StAs → Prop) (m : StAs → Nat) : mev ERk noM 60 18 (0 :: pRk) false (codeOf Try.prog 18 (0 :: pRk)) ⟨mkOv (slRk g s), 76, []⟩ none ⟨mkR (rlAs g s), 6⟩ (roundK 3 6 76 Inv m (slRk g) (rlAs g) (wsRk g) s) =
  (br (decide ((↑s.1 : Int) < Int.ofNat (List.length g.3)))
   (br (decide ((0 : Int) ≤ (↑s.1 : Int) ∧ (↑s.1 : Int) < (↑(List.length g.3) : Int)))
    ((Eq (α := Option Value) ((gC enF g.3)[(0 : Nat) + Int.toNat (↑s.1 : Int) * (2 : Nat) + (0 : Nat)]?) (some (Value.string (cellS (gC enF g.3) ((0 : Nat) + Int.toNat (↑s.1 : Int) * (2 : Nat) + (0 : Nat)))))) ∧
    (br (strEq (cellS (gC enF g.3) ((0 : Nat) + Int.toNat (↑s.1 : Int) * (2 : Nat) + (0 : Nat))) (ByteArray.mk #[(105 : UInt8), (102 : UInt8), (45 : UInt8), (110 : UInt8), (111 : UInt8), (110 : UInt8), (101 : UInt8), (45 : UInt8), (109 : UInt8), (97 : UInt8), (116 : UInt8), (99 : UInt8), (104 : UInt8)]))
     (∃ j : StAs, ((Inv j) ∧
     ((m j < m s) ∧
     (((0 : Nat) = (0 : Nat)) ∧
     (((0 : Nat) = (0 : Nat)) ∧
     ((bs g.5 = bs g.5) ∧
     ((g.7 = g.7) ∧
     ((bs g.6 = bs g.6) ∧
     ((g.8 = g.8) ∧
     (((0 : Nat) = (0 : Nat)) ∧
     ((List.length j.2 = List.length s.2) ∧
     (((↑j.1 : Int) = IntKind.wrap IntKind.i64 ((↑s.1 : Int) + (1 : Int))) ∧
     ((Eq (α := List Value) (gC enF g.1) (gC enF g.1)) ∧
     ((Plain (gC enF g.1)) ∧
     ((Eq (α := List Value) (gC enF g.2) (gC enF g.2)) ∧
     ((Plain (gC enF g.2)) ∧
     ((Eq (α := List Value) (gC enF g.3) (gC enF g.3)) ∧
     ((Plain (gC enF g.3)) ∧
     ((g.4.1 = g.4.1) ∧
     ((g.4.2 = g.4.2) ∧
     ((g.4.3 = g.4.3) ∧
     ((g.4.4 = g.4.4) ∧
     (((0 : Nat) = (0 : Nat)) ∧
     ((List.length g.3 = List.length g.3) ∧
     ((g.4.5 = g.4.5) ∧
     ((ByteArray.mk #[] = ByteArray.mk #[]) ∧
     ((ByteArray.mk #[] = ByteArray.mk #[]) ∧
     ((ByteArray.mk #[] = ByteArray.mk #[]) ∧
     ((ByteArray.mk #[] = ByteArray.mk #[]) ∧
     (((0 : Int) = (0 : Int)) ∧
     ((Eq (α := List Value) (gC enF j.2) (gC enF s.2)) ∧
     ((Plain (gC enF j.2)) ∧
     True))))))))))))))))))))))))))))))))
     (br (strEq (cellS (gC enF g.3) ((0 : Nat) + Int.toNat (↑s.1 : Int) * (2 : Nat) + (0 : Nat))) (ByteArray.mk #[(105 : UInt8), (102 : UInt8), (45 : UInt8), (109 : UInt8), (111 : UInt8), (100 : UInt8), (105 : UInt8), (102 : UInt8), (105 : UInt8), (101 : UInt8), (100 : UInt8), (45 : UInt8), (115 : UInt8), (105 : UInt8), (110 : UInt8), (99 : UInt8), (101 : UInt8)]))
      (∃ j : StAs, ((Inv j) ∧
      ((m j < m s) ∧
      (((0 : Nat) = (0 : Nat)) ∧
      (((0 : Nat) = (0 : Nat)) ∧
      ((bs g.5 = bs g.5) ∧
      ((g.7 = g.7) ∧
      ((bs g.6 = bs g.6) ∧
      ((g.8 = g.8) ∧
      (((0 : Nat) = (0 : Nat)) ∧
      ((List.length j.2 = List.length s.2) ∧
      (((↑j.1 : Int) = IntKind.wrap IntKind.i64 ((↑s.1 : Int) + (1 : Int))) ∧
      ((Eq (α := List Value) (gC enF g.1) (gC enF g.1)) ∧
      ((Plain (gC enF g.1)) ∧
      ((Eq (α := List Value) (gC enF g.2) (gC enF g.2)) ∧
      ((Plain (gC enF g.2)) ∧
      ((Eq (α := List Value) (gC enF g.3) (gC enF g.3)) ∧
      ((Plain (gC enF g.3)) ∧
      ((g.4.1 = g.4.1) ∧
      ((g.4.2 = g.4.2) ∧
      ((g.4.3 = g.4.3) ∧
      ((g.4.4 = g.4.4) ∧
      (((0 : Nat) = (0 : Nat)) ∧
      ((List.length g.3 = List.length g.3) ∧
      ((g.4.5 = g.4.5) ∧
      ((ByteArray.mk #[] = ByteArray.mk #[]) ∧
      ((ByteArray.mk #[] = ByteArray.mk #[]) ∧
      ((ByteArray.mk #[] = ByteArray.mk #[]) ∧
      ((ByteArray.mk #[] = ByteArray.mk #[]) ∧
      (((0 : Int) = (0 : Int)) ∧
      ((Eq (α := List Value) (gC enF j.2) (gC enF s.2)) ∧
      ((Plain (gC enF j.2)) ∧
      True))))))))))))))))))))))))))))))))
      (br (strEq (cellS (gC enF g.3) ((0 : Nat) + Int.toNat (↑s.1 : Int) * (2 : Nat) + (0 : Nat))) (ByteArray.mk #[(105 : UInt8), (102 : UInt8), (45 : UInt8), (109 : UInt8), (97 : UInt8), (116 : UInt8), (99 : UInt8), (104 : UInt8)]))
       (∃ j : StAs, ((Inv j) ∧
       ((m j < m s) ∧
       (((0 : Nat) = (0 : Nat)) ∧
       (((0 : Nat) = (0 : Nat)) ∧
       ((bs g.5 = bs g.5) ∧
       ((g.7 = g.7) ∧
       ((bs g.6 = bs g.6) ∧
       ((g.8 = g.8) ∧
       (((0 : Nat) = (0 : Nat)) ∧
       ((List.length j.2 = List.length s.2) ∧
       (((↑j.1 : Int) = IntKind.wrap IntKind.i64 ((↑s.1 : Int) + (1 : Int))) ∧
       ((Eq (α := List Value) (gC enF g.1) (gC enF g.1)) ∧
       ((Plain (gC enF g.1)) ∧
       ((Eq (α := List Value) (gC enF g.2) (gC enF g.2)) ∧
       ((Plain (gC enF g.2)) ∧
       ((Eq (α := List Value) (gC enF g.3) (gC enF g.3)) ∧
       ((Plain (gC enF g.3)) ∧
       ((g.4.1 = g.4.1) ∧
       ((g.4.2 = g.4.2) ∧
       ((g.4.3 = g.4.3) ∧
       ((g.4.4 = g.4.4) ∧
       (((0 : Nat) = (0 : Nat)) ∧
       ((List.length g.3 = List.length g.3) ∧
       ((g.4.5 = g.4.5) ∧
       ((ByteArray.mk #[] = ByteArray.mk #[]) ∧
       ((ByteArray.mk #[] = ByteArray.mk #[]) ∧
       ((ByteArray.mk #[] = ByteArray.mk #[]) ∧
       ((ByteArray.mk #[] = ByteArray.mk #[]) ∧
       (((0 : Int) = (0 : Int)) ∧
       ((Eq (α := List Value) (gC enF j.2) (gC enF s.2)) ∧
       ((Plain (gC enF j.2)) ∧
       True))))))))))))))))))))))))))))))))
       (br (strEq (cellS (gC enF g.3) ((0 : Nat) + Int.toNat (↑s.1 : Int) * (2 : Nat) + (0 : Nat))) (ByteArray.mk #[(105 : UInt8), (102 : UInt8), (45 : UInt8), (117 : UInt8), (110 : UInt8), (109 : UInt8), (111 : UInt8), (100 : UInt8), (105 : UInt8), (102 : UInt8), (105 : UInt8), (101 : UInt8), (100 : UInt8), (45 : UInt8), (115 : UInt8), (105 : UInt8), (110 : UInt8), (99 : UInt8), (101 : UInt8)]))
        (∃ j : StAs, ((Inv j) ∧
        ((m j < m s) ∧
        (((0 : Nat) = (0 : Nat)) ∧
        (((0 : Nat) = (0 : Nat)) ∧
        ((bs g.5 = bs g.5) ∧
        ((g.7 = g.7) ∧
        ((bs g.6 = bs g.6) ∧
        ((g.8 = g.8) ∧
        (((0 : Nat) = (0 : Nat)) ∧
        ((List.length j.2 = List.length s.2) ∧
        (((↑j.1 : Int) = IntKind.wrap IntKind.i64 ((↑s.1 : Int) + (1 : Int))) ∧
        ((Eq (α := List Value) (gC enF g.1) (gC enF g.1)) ∧
        ((Plain (gC enF g.1)) ∧
        ((Eq (α := List Value) (gC enF g.2) (gC enF g.2)) ∧
        ((Plain (gC enF g.2)) ∧
        ((Eq (α := List Value) (gC enF g.3) (gC enF g.3)) ∧
        ((Plain (gC enF g.3)) ∧
        ((g.4.1 = g.4.1) ∧
        ((g.4.2 = g.4.2) ∧
        ((g.4.3 = g.4.3) ∧
        ((g.4.4 = g.4.4) ∧
        (((0 : Nat) = (0 : Nat)) ∧
        ((List.length g.3 = List.length g.3) ∧
        ((g.4.5 = g.4.5) ∧
        ((ByteArray.mk #[] = ByteArray.mk #[]) ∧
        ((ByteArray.mk #[] = ByteArray.mk #[]) ∧
        ((ByteArray.mk #[] = ByteArray.mk #[]) ∧
        ((ByteArray.mk #[] = ByteArray.mk #[]) ∧
        (((0 : Int) = (0 : Int)) ∧
        ((Eq (α := List Value) (gC enF j.2) (gC enF s.2)) ∧
        ((Plain (gC enF j.2)) ∧
        True))))))))))))))))))))))))))))))))
        (br (strEq (cellS (gC enF g.3) ((0 : Nat) + Int.toNat (↑s.1 : Int) * (2 : Nat) + (0 : Nat))) (ByteArray.mk #[(105 : UInt8), (102 : UInt8), (45 : UInt8), (114 : UInt8), (97 : UInt8), (110 : UInt8), (103 : UInt8), (101 : UInt8)]))
         (∃ j : StAs, ((Inv j) ∧
         ((m j < m s) ∧
         (((0 : Nat) = (0 : Nat)) ∧
         (((0 : Nat) = (0 : Nat)) ∧
         ((bs g.5 = bs g.5) ∧
         ((g.7 = g.7) ∧
         ((bs g.6 = bs g.6) ∧
         ((g.8 = g.8) ∧
         (((0 : Nat) = (0 : Nat)) ∧
         ((List.length j.2 = List.length s.2) ∧
         (((↑j.1 : Int) = IntKind.wrap IntKind.i64 ((↑s.1 : Int) + (1 : Int))) ∧
         ((Eq (α := List Value) (gC enF g.1) (gC enF g.1)) ∧
         ((Plain (gC enF g.1)) ∧
         ((Eq (α := List Value) (gC enF g.2) (gC enF g.2)) ∧
         ((Plain (gC enF g.2)) ∧
         ((Eq (α := List Value) (gC enF g.3) (gC enF g.3)) ∧
         ((Plain (gC enF g.3)) ∧
         ((g.4.1 = g.4.1) ∧
         ((g.4.2 = g.4.2) ∧
         ((g.4.3 = g.4.3) ∧
         ((g.4.4 = g.4.4) ∧
         (((0 : Nat) = (0 : Nat)) ∧
         ((List.length g.3 = List.length g.3) ∧
         ((g.4.5 = g.4.5) ∧
         ((ByteArray.mk #[] = ByteArray.mk #[]) ∧
         ((ByteArray.mk #[] = ByteArray.mk #[]) ∧
         ((ByteArray.mk #[] = ByteArray.mk #[]) ∧
         ((ByteArray.mk #[] = ByteArray.mk #[]) ∧
         (((0 : Int) = (0 : Int)) ∧
         ((Eq (α := List Value) (gC enF j.2) (gC enF s.2)) ∧
         ((Plain (gC enF j.2)) ∧
         True))))))))))))))))))))))))))))))))
         (br (strEq (cellS (gC enF g.3) ((0 : Nat) + Int.toNat (↑s.1 : Int) * (2 : Nat) + (0 : Nat))) (ByteArray.mk #[(114 : UInt8), (97 : UInt8), (110 : UInt8), (103 : UInt8), (101 : UInt8)]))
          (∃ j : StAs, ((Inv j) ∧
          ((m j < m s) ∧
          (((0 : Nat) = (0 : Nat)) ∧
          (((0 : Nat) = (0 : Nat)) ∧
          ((bs g.5 = bs g.5) ∧
          ((g.7 = g.7) ∧
          ((bs g.6 = bs g.6) ∧
          ((g.8 = g.8) ∧
          (((0 : Nat) = (0 : Nat)) ∧
          ((List.length j.2 = List.length s.2) ∧
          (((↑j.1 : Int) = IntKind.wrap IntKind.i64 ((↑s.1 : Int) + (1 : Int))) ∧
          ((Eq (α := List Value) (gC enF g.1) (gC enF g.1)) ∧
          ((Plain (gC enF g.1)) ∧
          ((Eq (α := List Value) (gC enF g.2) (gC enF g.2)) ∧
          ((Plain (gC enF g.2)) ∧
          ((Eq (α := List Value) (gC enF g.3) (gC enF g.3)) ∧
          ((Plain (gC enF g.3)) ∧
          ((g.4.1 = g.4.1) ∧
          ((g.4.2 = g.4.2) ∧
          ((g.4.3 = g.4.3) ∧
          ((g.4.4 = g.4.4) ∧
          (((0 : Nat) = (0 : Nat)) ∧
          ((List.length g.3 = List.length g.3) ∧
          ((g.4.5 = g.4.5) ∧
          ((ByteArray.mk #[] = ByteArray.mk #[]) ∧
          ((ByteArray.mk #[] = ByteArray.mk #[]) ∧
          ((ByteArray.mk #[] = ByteArray.mk #[]) ∧
          ((ByteArray.mk #[] = ByteArray.mk #[]) ∧
          (((0 : Int) = (0 : Int)) ∧
          ((Eq (α := List Value) (gC enF j.2) (gC enF s.2)) ∧
          ((Plain (gC enF j.2)) ∧
          True))))))))))))))))))))))))))))))))
          (br (decide ((0 : Int) ≤ (↑s.1 : Int) ∧ (↑s.1 : Int) < (↑(List.length g.3) : Int)))
           ((Eq (α := Option Value) ((gC enF g.3)[(0 : Nat) + Int.toNat (↑s.1 : Int) * (2 : Nat)]?) (some (Value.string (cellS (gC enF g.3) ((0 : Nat) + Int.toNat (↑s.1 : Int) * (2 : Nat)))))) ∧
           ((Eq (α := Option Value) ((gC enF g.3)[(0 : Nat) + Int.toNat (↑s.1 : Int) * (2 : Nat) + (1 : Nat)]?) (some (Value.string (cellS (gC enF g.3) ((0 : Nat) + Int.toNat (↑s.1 : Int) * (2 : Nat) + (1 : Nat)))))) ∧
           (br (decide (List.length s.2 + (1 : Nat) ≤ (16777216 : Nat)))
            (br (decide ((0 : Nat) + List.length s.2 * (2 : Nat) ≤ List.length (gC enF s.2)))
             (∃ j : StAs, ((Inv j) ∧
             ((m j < m s) ∧
             (((0 : Nat) = (0 : Nat)) ∧
             (((0 : Nat) = (0 : Nat)) ∧
             ((bs g.5 = bs g.5) ∧
             ((g.7 = g.7) ∧
             ((bs g.6 = bs g.6) ∧
             ((g.8 = g.8) ∧
             (((0 : Nat) = (0 : Nat)) ∧
             ((List.length j.2 = List.length s.2 + (1 : Nat)) ∧
             (((↑j.1 : Int) = IntKind.wrap IntKind.i64 ((↑s.1 : Int) + (1 : Int))) ∧
             ((Eq (α := List Value) (gC enF g.1) (gC enF g.1)) ∧
             ((Plain (gC enF g.1)) ∧
             ((Eq (α := List Value) (gC enF g.2) (gC enF g.2)) ∧
             ((Plain (gC enF g.2)) ∧
             ((Eq (α := List Value) (gC enF g.3) (gC enF g.3)) ∧
             ((Plain (gC enF g.3)) ∧
             ((g.4.1 = g.4.1) ∧
             ((g.4.2 = g.4.2) ∧
             ((g.4.3 = g.4.3) ∧
             ((g.4.4 = g.4.4) ∧
             (((0 : Nat) = (0 : Nat)) ∧
             ((List.length g.3 = List.length g.3) ∧
             ((g.4.5 = g.4.5) ∧
             ((ByteArray.mk #[] = ByteArray.mk #[]) ∧
             ((ByteArray.mk #[] = ByteArray.mk #[]) ∧
             ((ByteArray.mk #[] = ByteArray.mk #[]) ∧
             ((ByteArray.mk #[] = ByteArray.mk #[]) ∧
             (((0 : Int) = (0 : Int)) ∧
             ((Eq (α := List Value) (gC enF j.2) (List.take (List.length s.2 * (2 : Nat)) (List.drop (0 : Nat) (gC enF s.2)) ++ [Value.string (cellS (gC enF g.3) ((0 : Nat) + Int.toNat (↑s.1 : Int) * (2 : Nat))), Value.string (cellS (gC enF g.3) ((0 : Nat) + Int.toNat (↑s.1 : Int) * (2 : Nat) + (1 : Nat)))])) ∧
             ((Plain (gC enF j.2)) ∧
             True))))))))))))))))))))))))))))))))
             False)
            False)))
           False))))))))
    False)
   (∃ y : List Fl, ((Eq (α := List Fl) (y) (keptL g.3)) ∧
   (((0 : Nat) = (0 : Nat)) ∧
   (((0 : Nat) = (0 : Nat)) ∧
   ((bs g.5 = bs g.5) ∧
   ((g.7 = g.7) ∧
   ((bs g.6 = bs g.6) ∧
   ((g.8 = g.8) ∧
   (((0 : Nat) = (0 : Nat)) ∧
   ((List.length y = List.length s.2) ∧
   ((Eq (α := List Value) (gC enF g.1) (gC enF g.1)) ∧
   ((Plain (gC enF g.1)) ∧
   ((Eq (α := List Value) (gC enF g.2) (gC enF g.2)) ∧
   ((Plain (gC enF g.2)) ∧
   ((Eq (α := List Value) (gC enF g.3) (gC enF g.3)) ∧
   ((Plain (gC enF g.3)) ∧
   ((g.4.1 = g.4.1) ∧
   ((g.4.2 = g.4.2) ∧
   ((g.4.3 = g.4.3) ∧
   ((g.4.4 = g.4.4) ∧
   (((0 : Nat) = (0 : Nat)) ∧
   ((List.length g.3 = List.length g.3) ∧
   ((g.4.5 = g.4.5) ∧
   ((ByteArray.mk #[] = ByteArray.mk #[]) ∧
   ((ByteArray.mk #[] = ByteArray.mk #[]) ∧
   ((ByteArray.mk #[] = ByteArray.mk #[]) ∧
   ((ByteArray.mk #[] = ByteArray.mk #[]) ∧
   (((0 : Int) = (0 : Int)) ∧
   ((Eq (α := List Value) (gC enF y) (gC enF s.2)) ∧
   ((Plain (gC enF y)) ∧
   True))))))))))))))))))))))))))))))) := by kernel_rfl
theorem Rk_vc (x : EnY) (y : RqY) (d e q o : List Fl) (b : Bool) : mcall ERk mRk 60 18 [.agg ⟨enCy x 0 d.length 1 e.length⟩, .agg ⟨rqCy y 2 q.length⟩] ⟨mkR (nums 0 [gRo enF d, gRo enF e, gRo enF q]), 3⟩ (retIs 3 (.tuple #[.agg ⟨rqCy y 3 o.length⟩, .bool b]) [gRo enF d, gRo enF e, gRo enF q, gOwn enF o]) =
  ((((((0 : Nat) + List.length e * (2 : Nat) ≤ List.length (gC enF e) ∧ Plain (List.take (List.length e * (2 : Nat)) (List.drop (0 : Nat) (gC enF e)))) ∧ (True ∧ True)) ∧ (True ∧ (IsF (Row.mk (List.take (List.length e * (2 : Nat)) (List.drop (0 : Nat) (gC enF e))) true (Ob.cells true)) (List.length e) ∧ (List.length e ≤ (9223372036854775807 : Nat) ∧ alB (Row.mk (List.take (List.length e * (2 : Nat)) (List.drop (0 : Nat) (gC enF e))) true (Ob.cells true)) (ByteArray.mk #[(101 : UInt8), (116 : UInt8), (97 : UInt8), (103 : UInt8)]) ≤ (16777216 : Nat)))))) ∧
  ((((((0 : Nat) + List.length e * (2 : Nat) ≤ List.length (gC enF e) ∧ Plain (List.take (List.length e * (2 : Nat)) (List.drop (0 : Nat) (gC enF e)))) ∧ (True ∧ True)) ∧ (True ∧ (IsF (Row.mk (List.take (List.length e * (2 : Nat)) (List.drop (0 : Nat) (gC enF e))) true (Ob.cells true)) (List.length e) ∧ (List.length e ≤ (9223372036854775807 : Nat) ∧ alB (Row.mk (List.take (List.length e * (2 : Nat)) (List.drop (0 : Nat) (gC enF e))) true (Ob.cells true)) (ByteArray.mk #[(108 : UInt8), (97 : UInt8), (115 : UInt8), (116 : UInt8), (45 : UInt8), (109 : UInt8), (111 : UInt8), (100 : UInt8), (105 : UInt8), (102 : UInt8), (105 : UInt8), (101 : UInt8), (100 : UInt8)]) ≤ (16777216 : Nat)))))) ∧
  (br (!alN (Row.mk (List.take (List.length e * (2 : Nat)) (List.drop (0 : Nat) (gC enF e))) true (Ob.cells true)) (ByteArray.mk #[(101 : UInt8), (116 : UInt8), (97 : UInt8), (103 : UInt8)]) == (1 : Int))
   (br (!alN (Row.mk (List.take (List.length e * (2 : Nat)) (List.drop (0 : Nat) (gC enF e))) true (Ob.cells true)) (ByteArray.mk #[(108 : UInt8), (97 : UInt8), (115 : UInt8), (116 : UInt8), (45 : UInt8), (109 : UInt8), (111 : UInt8), (100 : UInt8), (105 : UInt8), (102 : UInt8), (105 : UInt8), (101 : UInt8), (100 : UInt8)]) == (1 : Int))
    ((y.1 = y.1) ∧
    ((y.2 = y.2) ∧
    ((y.3 = y.3) ∧
    ((y.4 = y.4) ∧
    False))))
    (∃ g : GAs, ((List.length g.3 ≤ (16777000 : Nat)) ∧
    (((0 : Nat) = (0 : Nat)) ∧
    (((0 : Nat) = (0 : Nat)) ∧
    ((bs g.5 = alV (Row.mk (List.take (List.length e * (2 : Nat)) (List.drop (0 : Nat) (gC enF e))) true (Ob.cells true)) (ByteArray.mk #[(101 : UInt8), (116 : UInt8), (97 : UInt8), (103 : UInt8)])) ∧
    ((g.7 = (alN (Row.mk (List.take (List.length e * (2 : Nat)) (List.drop (0 : Nat) (gC enF e))) true (Ob.cells true)) (ByteArray.mk #[(101 : UInt8), (116 : UInt8), (97 : UInt8), (103 : UInt8)]) == (1 : Int))) ∧
    ((bs g.6 = alV (Row.mk (List.take (List.length e * (2 : Nat)) (List.drop (0 : Nat) (gC enF e))) true (Ob.cells true)) (ByteArray.mk #[(108 : UInt8), (97 : UInt8), (115 : UInt8), (116 : UInt8), (45 : UInt8), (109 : UInt8), (111 : UInt8), (100 : UInt8), (105 : UInt8), (102 : UInt8), (105 : UInt8), (101 : UInt8), (100 : UInt8)])) ∧
    ((g.8 = (alN (Row.mk (List.take (List.length e * (2 : Nat)) (List.drop (0 : Nat) (gC enF e))) true (Ob.cells true)) (ByteArray.mk #[(108 : UInt8), (97 : UInt8), (115 : UInt8), (116 : UInt8), (45 : UInt8), (109 : UInt8), (111 : UInt8), (100 : UInt8), (105 : UInt8), (102 : UInt8), (105 : UInt8), (101 : UInt8), (100 : UInt8)]) == (1 : Int))) ∧
    (((0 : Nat) = (0 : Nat)) ∧
    (((0 : Int) = (0 : Int)) ∧
    ((Eq (α := List Value) (gC enF g.1) (gC enF d)) ∧
    ((Plain (gC enF g.1)) ∧
    ((Eq (α := List Value) (gC enF g.2) (gC enF e)) ∧
    ((Plain (gC enF g.2)) ∧
    ((Eq (α := List Value) (gC enF g.3) (gC enF q)) ∧
    ((Plain (gC enF g.3)) ∧
    ((g.4.1 = y.1) ∧
    ((g.4.2 = y.2) ∧
    ((g.4.3 = y.3) ∧
    ((g.4.4 = y.4) ∧
    (((0 : Nat) = (0 : Nat)) ∧
    ((List.length g.3 = List.length q) ∧
    ((g.4.5 = y.5) ∧
    ((ByteArray.mk #[] = ByteArray.mk #[]) ∧
    ((ByteArray.mk #[] = ByteArray.mk #[]) ∧
    ((ByteArray.mk #[] = ByteArray.mk #[]) ∧
    ((ByteArray.mk #[] = ByteArray.mk #[]) ∧
    (((0 : Int) = (0 : Int)) ∧
    ((Eq (α := List Value) ([]) ([])) ∧
    (∀ (y2 : List Fl), ((y2 = keptL g.3) →
    (br (g.7)
     (br (decide (List.length y2 + (1 : Nat) ≤ (16777216 : Nat)))
      (br (decide ((0 : Nat) + List.length y2 * (2 : Nat) ≤ List.length (gC enF y2)))
       (br (g.8)
        (br (decide (List.length y2 + (1 : Nat) + (1 : Nat) ≤ (16777216 : Nat)))
         (br (decide ((0 : Nat) + (List.length y2 + (1 : Nat)) * (2 : Nat) ≤ List.length (List.take (List.length y2 * (2 : Nat)) (List.drop (0 : Nat) (gC enF y2)) ++ [Value.string (ByteArray.mk #[(105 : UInt8), (102 : UInt8), (45 : UInt8), (110 : UInt8), (111 : UInt8), (110 : UInt8), (101 : UInt8), (45 : UInt8), (109 : UInt8), (97 : UInt8), (116 : UInt8), (99 : UInt8), (104 : UInt8)]), Value.string (bs g.5)])))
          ((y.1 = g.4.1) ∧
          ((y.2 = g.4.2) ∧
          ((y.3 = g.4.3) ∧
          ((y.4 = g.4.4) ∧
          (((0 : Nat) = (0 : Nat)) ∧
          ((List.length o = List.length y2 + (1 : Nat) + (1 : Nat)) ∧
          ((y.5 = g.4.5) ∧
          ((b = true) ∧
          ((Eq (α := List Value) (gC enF d) (gC enF g.1)) ∧
          ((Plain (gC enF d)) ∧
          ((Eq (α := List Value) (gC enF e) (gC enF g.2)) ∧
          ((Plain (gC enF e)) ∧
          ((Eq (α := List Value) (gC enF q) (gC enF g.3)) ∧
          ((Plain (gC enF q)) ∧
          ((Eq (α := List Value) (gC enF o) (List.take ((List.length y2 + (1 : Nat)) * (2 : Nat)) (List.drop (0 : Nat) (List.take (List.length y2 * (2 : Nat)) (List.drop (0 : Nat) (gC enF y2)) ++ [Value.string (ByteArray.mk #[(105 : UInt8), (102 : UInt8), (45 : UInt8), (110 : UInt8), (111 : UInt8), (110 : UInt8), (101 : UInt8), (45 : UInt8), (109 : UInt8), (97 : UInt8), (116 : UInt8), (99 : UInt8), (104 : UInt8)]), Value.string (bs g.5)])) ++ [Value.string (ByteArray.mk #[(105 : UInt8), (102 : UInt8), (45 : UInt8), (109 : UInt8), (111 : UInt8), (100 : UInt8), (105 : UInt8), (102 : UInt8), (105 : UInt8), (101 : UInt8), (100 : UInt8), (45 : UInt8), (115 : UInt8), (105 : UInt8), (110 : UInt8), (99 : UInt8), (101 : UInt8)]), Value.string (bs g.6)])) ∧
          ((Plain (gC enF o)) ∧
          True))))))))))))))))
          False)
         False)
        ((y.1 = g.4.1) ∧
        ((y.2 = g.4.2) ∧
        ((y.3 = g.4.3) ∧
        ((y.4 = g.4.4) ∧
        (((0 : Nat) = (0 : Nat)) ∧
        ((List.length o = List.length y2 + (1 : Nat)) ∧
        ((y.5 = g.4.5) ∧
        ((b = true) ∧
        ((Eq (α := List Value) (gC enF d) (gC enF g.1)) ∧
        ((Plain (gC enF d)) ∧
        ((Eq (α := List Value) (gC enF e) (gC enF g.2)) ∧
        ((Plain (gC enF e)) ∧
        ((Eq (α := List Value) (gC enF q) (gC enF g.3)) ∧
        ((Plain (gC enF q)) ∧
        ((Eq (α := List Value) (gC enF o) (List.take (List.length y2 * (2 : Nat)) (List.drop (0 : Nat) (gC enF y2)) ++ [Value.string (ByteArray.mk #[(105 : UInt8), (102 : UInt8), (45 : UInt8), (110 : UInt8), (111 : UInt8), (110 : UInt8), (101 : UInt8), (45 : UInt8), (109 : UInt8), (97 : UInt8), (116 : UInt8), (99 : UInt8), (104 : UInt8)]), Value.string (bs g.5)])) ∧
        ((Plain (gC enF o)) ∧
        True)))))))))))))))))
       False)
      False)
     (br (g.8)
      (br (decide (List.length y2 + (1 : Nat) ≤ (16777216 : Nat)))
       (br (decide ((0 : Nat) + List.length y2 * (2 : Nat) ≤ List.length (gC enF y2)))
        ((y.1 = g.4.1) ∧
        ((y.2 = g.4.2) ∧
        ((y.3 = g.4.3) ∧
        ((y.4 = g.4.4) ∧
        (((0 : Nat) = (0 : Nat)) ∧
        ((List.length o = List.length y2 + (1 : Nat)) ∧
        ((y.5 = g.4.5) ∧
        ((b = true) ∧
        ((Eq (α := List Value) (gC enF d) (gC enF g.1)) ∧
        ((Plain (gC enF d)) ∧
        ((Eq (α := List Value) (gC enF e) (gC enF g.2)) ∧
        ((Plain (gC enF e)) ∧
        ((Eq (α := List Value) (gC enF q) (gC enF g.3)) ∧
        ((Plain (gC enF q)) ∧
        ((Eq (α := List Value) (gC enF o) (List.take (List.length y2 * (2 : Nat)) (List.drop (0 : Nat) (gC enF y2)) ++ [Value.string (ByteArray.mk #[(105 : UInt8), (102 : UInt8), (45 : UInt8), (109 : UInt8), (111 : UInt8), (100 : UInt8), (105 : UInt8), (102 : UInt8), (105 : UInt8), (101 : UInt8), (100 : UInt8), (45 : UInt8), (115 : UInt8), (105 : UInt8), (110 : UInt8), (99 : UInt8), (101 : UInt8)]), Value.string (bs g.6)])) ∧
        ((Plain (gC enF o)) ∧
        True))))))))))))))))
        False)
       False)
      ((y.1 = g.4.1) ∧
      ((y.2 = g.4.2) ∧
      ((y.3 = g.4.3) ∧
      ((y.4 = g.4.4) ∧
      (((0 : Nat) = (0 : Nat)) ∧
      ((List.length o = List.length y2) ∧
      ((y.5 = g.4.5) ∧
      ((b = true) ∧
      ((Eq (α := List Value) (gC enF d) (gC enF g.1)) ∧
      ((Plain (gC enF d)) ∧
      ((Eq (α := List Value) (gC enF e) (gC enF g.2)) ∧
      ((Plain (gC enF e)) ∧
      ((Eq (α := List Value) (gC enF q) (gC enF g.3)) ∧
      ((Plain (gC enF q)) ∧
      ((Eq (α := List Value) (gC enF o) (gC enF y2)) ∧
      ((Plain (gC enF o)) ∧
      True))))))))))))))))))))))))))))))))))))))))))))))))))
   (∃ g : GAs, ((List.length g.3 ≤ (16777000 : Nat)) ∧
   (((0 : Nat) = (0 : Nat)) ∧
   (((0 : Nat) = (0 : Nat)) ∧
   ((bs g.5 = alV (Row.mk (List.take (List.length e * (2 : Nat)) (List.drop (0 : Nat) (gC enF e))) true (Ob.cells true)) (ByteArray.mk #[(101 : UInt8), (116 : UInt8), (97 : UInt8), (103 : UInt8)])) ∧
   ((g.7 = (alN (Row.mk (List.take (List.length e * (2 : Nat)) (List.drop (0 : Nat) (gC enF e))) true (Ob.cells true)) (ByteArray.mk #[(101 : UInt8), (116 : UInt8), (97 : UInt8), (103 : UInt8)]) == (1 : Int))) ∧
   ((bs g.6 = alV (Row.mk (List.take (List.length e * (2 : Nat)) (List.drop (0 : Nat) (gC enF e))) true (Ob.cells true)) (ByteArray.mk #[(108 : UInt8), (97 : UInt8), (115 : UInt8), (116 : UInt8), (45 : UInt8), (109 : UInt8), (111 : UInt8), (100 : UInt8), (105 : UInt8), (102 : UInt8), (105 : UInt8), (101 : UInt8), (100 : UInt8)])) ∧
   ((g.8 = (alN (Row.mk (List.take (List.length e * (2 : Nat)) (List.drop (0 : Nat) (gC enF e))) true (Ob.cells true)) (ByteArray.mk #[(108 : UInt8), (97 : UInt8), (115 : UInt8), (116 : UInt8), (45 : UInt8), (109 : UInt8), (111 : UInt8), (100 : UInt8), (105 : UInt8), (102 : UInt8), (105 : UInt8), (101 : UInt8), (100 : UInt8)]) == (1 : Int))) ∧
   (((0 : Nat) = (0 : Nat)) ∧
   (((0 : Int) = (0 : Int)) ∧
   ((Eq (α := List Value) (gC enF g.1) (gC enF d)) ∧
   ((Plain (gC enF g.1)) ∧
   ((Eq (α := List Value) (gC enF g.2) (gC enF e)) ∧
   ((Plain (gC enF g.2)) ∧
   ((Eq (α := List Value) (gC enF g.3) (gC enF q)) ∧
   ((Plain (gC enF g.3)) ∧
   ((g.4.1 = y.1) ∧
   ((g.4.2 = y.2) ∧
   ((g.4.3 = y.3) ∧
   ((g.4.4 = y.4) ∧
   (((0 : Nat) = (0 : Nat)) ∧
   ((List.length g.3 = List.length q) ∧
   ((g.4.5 = y.5) ∧
   ((ByteArray.mk #[] = ByteArray.mk #[]) ∧
   ((ByteArray.mk #[] = ByteArray.mk #[]) ∧
   ((ByteArray.mk #[] = ByteArray.mk #[]) ∧
   ((ByteArray.mk #[] = ByteArray.mk #[]) ∧
   (((0 : Int) = (0 : Int)) ∧
   ((Eq (α := List Value) ([]) ([])) ∧
   (∀ (y2 : List Fl), ((y2 = keptL g.3) →
   (br (g.7)
    (br (decide (List.length y2 + (1 : Nat) ≤ (16777216 : Nat)))
     (br (decide ((0 : Nat) + List.length y2 * (2 : Nat) ≤ List.length (gC enF y2)))
      (br (g.8)
       (br (decide (List.length y2 + (1 : Nat) + (1 : Nat) ≤ (16777216 : Nat)))
        (br (decide ((0 : Nat) + (List.length y2 + (1 : Nat)) * (2 : Nat) ≤ List.length (List.take (List.length y2 * (2 : Nat)) (List.drop (0 : Nat) (gC enF y2)) ++ [Value.string (ByteArray.mk #[(105 : UInt8), (102 : UInt8), (45 : UInt8), (110 : UInt8), (111 : UInt8), (110 : UInt8), (101 : UInt8), (45 : UInt8), (109 : UInt8), (97 : UInt8), (116 : UInt8), (99 : UInt8), (104 : UInt8)]), Value.string (bs g.5)])))
         ((y.1 = g.4.1) ∧
         ((y.2 = g.4.2) ∧
         ((y.3 = g.4.3) ∧
         ((y.4 = g.4.4) ∧
         (((0 : Nat) = (0 : Nat)) ∧
         ((List.length o = List.length y2 + (1 : Nat) + (1 : Nat)) ∧
         ((y.5 = g.4.5) ∧
         ((b = true) ∧
         ((Eq (α := List Value) (gC enF d) (gC enF g.1)) ∧
         ((Plain (gC enF d)) ∧
         ((Eq (α := List Value) (gC enF e) (gC enF g.2)) ∧
         ((Plain (gC enF e)) ∧
         ((Eq (α := List Value) (gC enF q) (gC enF g.3)) ∧
         ((Plain (gC enF q)) ∧
         ((Eq (α := List Value) (gC enF o) (List.take ((List.length y2 + (1 : Nat)) * (2 : Nat)) (List.drop (0 : Nat) (List.take (List.length y2 * (2 : Nat)) (List.drop (0 : Nat) (gC enF y2)) ++ [Value.string (ByteArray.mk #[(105 : UInt8), (102 : UInt8), (45 : UInt8), (110 : UInt8), (111 : UInt8), (110 : UInt8), (101 : UInt8), (45 : UInt8), (109 : UInt8), (97 : UInt8), (116 : UInt8), (99 : UInt8), (104 : UInt8)]), Value.string (bs g.5)])) ++ [Value.string (ByteArray.mk #[(105 : UInt8), (102 : UInt8), (45 : UInt8), (109 : UInt8), (111 : UInt8), (100 : UInt8), (105 : UInt8), (102 : UInt8), (105 : UInt8), (101 : UInt8), (100 : UInt8), (45 : UInt8), (115 : UInt8), (105 : UInt8), (110 : UInt8), (99 : UInt8), (101 : UInt8)]), Value.string (bs g.6)])) ∧
         ((Plain (gC enF o)) ∧
         True))))))))))))))))
         False)
        False)
       ((y.1 = g.4.1) ∧
       ((y.2 = g.4.2) ∧
       ((y.3 = g.4.3) ∧
       ((y.4 = g.4.4) ∧
       (((0 : Nat) = (0 : Nat)) ∧
       ((List.length o = List.length y2 + (1 : Nat)) ∧
       ((y.5 = g.4.5) ∧
       ((b = true) ∧
       ((Eq (α := List Value) (gC enF d) (gC enF g.1)) ∧
       ((Plain (gC enF d)) ∧
       ((Eq (α := List Value) (gC enF e) (gC enF g.2)) ∧
       ((Plain (gC enF e)) ∧
       ((Eq (α := List Value) (gC enF q) (gC enF g.3)) ∧
       ((Plain (gC enF q)) ∧
       ((Eq (α := List Value) (gC enF o) (List.take (List.length y2 * (2 : Nat)) (List.drop (0 : Nat) (gC enF y2)) ++ [Value.string (ByteArray.mk #[(105 : UInt8), (102 : UInt8), (45 : UInt8), (110 : UInt8), (111 : UInt8), (110 : UInt8), (101 : UInt8), (45 : UInt8), (109 : UInt8), (97 : UInt8), (116 : UInt8), (99 : UInt8), (104 : UInt8)]), Value.string (bs g.5)])) ∧
       ((Plain (gC enF o)) ∧
       True)))))))))))))))))
      False)
     False)
    (br (g.8)
     (br (decide (List.length y2 + (1 : Nat) ≤ (16777216 : Nat)))
      (br (decide ((0 : Nat) + List.length y2 * (2 : Nat) ≤ List.length (gC enF y2)))
       ((y.1 = g.4.1) ∧
       ((y.2 = g.4.2) ∧
       ((y.3 = g.4.3) ∧
       ((y.4 = g.4.4) ∧
       (((0 : Nat) = (0 : Nat)) ∧
       ((List.length o = List.length y2 + (1 : Nat)) ∧
       ((y.5 = g.4.5) ∧
       ((b = true) ∧
       ((Eq (α := List Value) (gC enF d) (gC enF g.1)) ∧
       ((Plain (gC enF d)) ∧
       ((Eq (α := List Value) (gC enF e) (gC enF g.2)) ∧
       ((Plain (gC enF e)) ∧
       ((Eq (α := List Value) (gC enF q) (gC enF g.3)) ∧
       ((Plain (gC enF q)) ∧
       ((Eq (α := List Value) (gC enF o) (List.take (List.length y2 * (2 : Nat)) (List.drop (0 : Nat) (gC enF y2)) ++ [Value.string (ByteArray.mk #[(105 : UInt8), (102 : UInt8), (45 : UInt8), (109 : UInt8), (111 : UInt8), (100 : UInt8), (105 : UInt8), (102 : UInt8), (105 : UInt8), (101 : UInt8), (100 : UInt8), (45 : UInt8), (115 : UInt8), (105 : UInt8), (110 : UInt8), (99 : UInt8), (101 : UInt8)]), Value.string (bs g.6)])) ∧
       ((Plain (gC enF o)) ∧
       True))))))))))))))))
       False)
      False)
     ((y.1 = g.4.1) ∧
     ((y.2 = g.4.2) ∧
     ((y.3 = g.4.3) ∧
     ((y.4 = g.4.4) ∧
     (((0 : Nat) = (0 : Nat)) ∧
     ((List.length o = List.length y2) ∧
     ((y.5 = g.4.5) ∧
     ((b = true) ∧
     ((Eq (α := List Value) (gC enF d) (gC enF g.1)) ∧
     ((Plain (gC enF d)) ∧
     ((Eq (α := List Value) (gC enF e) (gC enF g.2)) ∧
     ((Plain (gC enF e)) ∧
     ((Eq (α := List Value) (gC enF q) (gC enF g.3)) ∧
     ((Plain (gC enF q)) ∧
     ((Eq (α := List Value) (gC enF o) (gC enF y2)) ∧
     ((Plain (gC enF o)) ∧
     True)))))))))))))))))))))))))))))))))))))))))))))))))))) := by kernel_rfl
theorem Rk_vc0 (x : EnY) (y : RqY) (d e q : List Fl) (b : Bool) : mcall ERk mRk 60 18 [.agg ⟨enCy x 0 d.length 1 e.length⟩, .agg ⟨rqCy y 2 q.length⟩] ⟨mkR (nums 0 [gRo enF d, gRo enF e, gRo enF q]), 3⟩ (retIs 3 (.tuple #[.agg ⟨rqCy y 2 q.length⟩, .bool b]) [gRo enF d, gRo enF e, gRo enF q]) =
  ((((((0 : Nat) + List.length e * (2 : Nat) ≤ List.length (gC enF e) ∧ Plain (List.take (List.length e * (2 : Nat)) (List.drop (0 : Nat) (gC enF e)))) ∧ (True ∧ True)) ∧ (True ∧ (IsF (Row.mk (List.take (List.length e * (2 : Nat)) (List.drop (0 : Nat) (gC enF e))) true (Ob.cells true)) (List.length e) ∧ (List.length e ≤ (9223372036854775807 : Nat) ∧ alB (Row.mk (List.take (List.length e * (2 : Nat)) (List.drop (0 : Nat) (gC enF e))) true (Ob.cells true)) (ByteArray.mk #[(101 : UInt8), (116 : UInt8), (97 : UInt8), (103 : UInt8)]) ≤ (16777216 : Nat)))))) ∧
  ((((((0 : Nat) + List.length e * (2 : Nat) ≤ List.length (gC enF e) ∧ Plain (List.take (List.length e * (2 : Nat)) (List.drop (0 : Nat) (gC enF e)))) ∧ (True ∧ True)) ∧ (True ∧ (IsF (Row.mk (List.take (List.length e * (2 : Nat)) (List.drop (0 : Nat) (gC enF e))) true (Ob.cells true)) (List.length e) ∧ (List.length e ≤ (9223372036854775807 : Nat) ∧ alB (Row.mk (List.take (List.length e * (2 : Nat)) (List.drop (0 : Nat) (gC enF e))) true (Ob.cells true)) (ByteArray.mk #[(108 : UInt8), (97 : UInt8), (115 : UInt8), (116 : UInt8), (45 : UInt8), (109 : UInt8), (111 : UInt8), (100 : UInt8), (105 : UInt8), (102 : UInt8), (105 : UInt8), (101 : UInt8), (100 : UInt8)]) ≤ (16777216 : Nat)))))) ∧
  (br (!alN (Row.mk (List.take (List.length e * (2 : Nat)) (List.drop (0 : Nat) (gC enF e))) true (Ob.cells true)) (ByteArray.mk #[(101 : UInt8), (116 : UInt8), (97 : UInt8), (103 : UInt8)]) == (1 : Int))
   (br (!alN (Row.mk (List.take (List.length e * (2 : Nat)) (List.drop (0 : Nat) (gC enF e))) true (Ob.cells true)) (ByteArray.mk #[(108 : UInt8), (97 : UInt8), (115 : UInt8), (116 : UInt8), (45 : UInt8), (109 : UInt8), (111 : UInt8), (100 : UInt8), (105 : UInt8), (102 : UInt8), (105 : UInt8), (101 : UInt8), (100 : UInt8)]) == (1 : Int))
    ((y.1 = y.1) ∧
    ((y.2 = y.2) ∧
    ((y.3 = y.3) ∧
    ((y.4 = y.4) ∧
    (((0 : Nat) = (0 : Nat)) ∧
    ((List.length q = List.length q) ∧
    ((y.5 = y.5) ∧
    ((b = false) ∧
    ((Eq (α := List Value) (gC enF d) (gC enF d)) ∧
    ((Plain (gC enF d)) ∧
    ((Eq (α := List Value) (gC enF e) (gC enF e)) ∧
    ((Plain (gC enF e)) ∧
    ((Eq (α := List Value) (gC enF q) (gC enF q)) ∧
    ((Plain (gC enF q)) ∧
    True))))))))))))))
    (∃ g : GAs, ((List.length g.3 ≤ (16777000 : Nat)) ∧
    (((0 : Nat) = (0 : Nat)) ∧
    (((0 : Nat) = (0 : Nat)) ∧
    ((bs g.5 = alV (Row.mk (List.take (List.length e * (2 : Nat)) (List.drop (0 : Nat) (gC enF e))) true (Ob.cells true)) (ByteArray.mk #[(101 : UInt8), (116 : UInt8), (97 : UInt8), (103 : UInt8)])) ∧
    ((g.7 = (alN (Row.mk (List.take (List.length e * (2 : Nat)) (List.drop (0 : Nat) (gC enF e))) true (Ob.cells true)) (ByteArray.mk #[(101 : UInt8), (116 : UInt8), (97 : UInt8), (103 : UInt8)]) == (1 : Int))) ∧
    ((bs g.6 = alV (Row.mk (List.take (List.length e * (2 : Nat)) (List.drop (0 : Nat) (gC enF e))) true (Ob.cells true)) (ByteArray.mk #[(108 : UInt8), (97 : UInt8), (115 : UInt8), (116 : UInt8), (45 : UInt8), (109 : UInt8), (111 : UInt8), (100 : UInt8), (105 : UInt8), (102 : UInt8), (105 : UInt8), (101 : UInt8), (100 : UInt8)])) ∧
    ((g.8 = (alN (Row.mk (List.take (List.length e * (2 : Nat)) (List.drop (0 : Nat) (gC enF e))) true (Ob.cells true)) (ByteArray.mk #[(108 : UInt8), (97 : UInt8), (115 : UInt8), (116 : UInt8), (45 : UInt8), (109 : UInt8), (111 : UInt8), (100 : UInt8), (105 : UInt8), (102 : UInt8), (105 : UInt8), (101 : UInt8), (100 : UInt8)]) == (1 : Int))) ∧
    (((0 : Nat) = (0 : Nat)) ∧
    (((0 : Int) = (0 : Int)) ∧
    ((Eq (α := List Value) (gC enF g.1) (gC enF d)) ∧
    ((Plain (gC enF g.1)) ∧
    ((Eq (α := List Value) (gC enF g.2) (gC enF e)) ∧
    ((Plain (gC enF g.2)) ∧
    ((Eq (α := List Value) (gC enF g.3) (gC enF q)) ∧
    ((Plain (gC enF g.3)) ∧
    ((g.4.1 = y.1) ∧
    ((g.4.2 = y.2) ∧
    ((g.4.3 = y.3) ∧
    ((g.4.4 = y.4) ∧
    (((0 : Nat) = (0 : Nat)) ∧
    ((List.length g.3 = List.length q) ∧
    ((g.4.5 = y.5) ∧
    ((ByteArray.mk #[] = ByteArray.mk #[]) ∧
    ((ByteArray.mk #[] = ByteArray.mk #[]) ∧
    ((ByteArray.mk #[] = ByteArray.mk #[]) ∧
    ((ByteArray.mk #[] = ByteArray.mk #[]) ∧
    (((0 : Int) = (0 : Int)) ∧
    ((Eq (α := List Value) ([]) ([])) ∧
    (∀ (y2 : List Fl), ((y2 = keptL g.3) →
    (br (g.7)
     (br (decide (List.length y2 + (1 : Nat) ≤ (16777216 : Nat)))
      (br (decide ((0 : Nat) + List.length y2 * (2 : Nat) ≤ List.length (gC enF y2)))
       (br (g.8)
        (br (decide (List.length y2 + (1 : Nat) + (1 : Nat) ≤ (16777216 : Nat)))
         (br (decide ((0 : Nat) + (List.length y2 + (1 : Nat)) * (2 : Nat) ≤ List.length (List.take (List.length y2 * (2 : Nat)) (List.drop (0 : Nat) (gC enF y2)) ++ [Value.string (ByteArray.mk #[(105 : UInt8), (102 : UInt8), (45 : UInt8), (110 : UInt8), (111 : UInt8), (110 : UInt8), (101 : UInt8), (45 : UInt8), (109 : UInt8), (97 : UInt8), (116 : UInt8), (99 : UInt8), (104 : UInt8)]), Value.string (bs g.5)])))
          ((y.1 = g.4.1) ∧
          ((y.2 = g.4.2) ∧
          ((y.3 = g.4.3) ∧
          ((y.4 = g.4.4) ∧
          False))))
          False)
         False)
        ((y.1 = g.4.1) ∧
        ((y.2 = g.4.2) ∧
        ((y.3 = g.4.3) ∧
        ((y.4 = g.4.4) ∧
        False)))))
       False)
      False)
     (br (g.8)
      (br (decide (List.length y2 + (1 : Nat) ≤ (16777216 : Nat)))
       (br (decide ((0 : Nat) + List.length y2 * (2 : Nat) ≤ List.length (gC enF y2)))
        ((y.1 = g.4.1) ∧
        ((y.2 = g.4.2) ∧
        ((y.3 = g.4.3) ∧
        ((y.4 = g.4.4) ∧
        False))))
        False)
       False)
      ((y.1 = g.4.1) ∧
      ((y.2 = g.4.2) ∧
      ((y.3 = g.4.3) ∧
      ((y.4 = g.4.4) ∧
      False))))))))))))))))))))))))))))))))))))))
   (∃ g : GAs, ((List.length g.3 ≤ (16777000 : Nat)) ∧
   (((0 : Nat) = (0 : Nat)) ∧
   (((0 : Nat) = (0 : Nat)) ∧
   ((bs g.5 = alV (Row.mk (List.take (List.length e * (2 : Nat)) (List.drop (0 : Nat) (gC enF e))) true (Ob.cells true)) (ByteArray.mk #[(101 : UInt8), (116 : UInt8), (97 : UInt8), (103 : UInt8)])) ∧
   ((g.7 = (alN (Row.mk (List.take (List.length e * (2 : Nat)) (List.drop (0 : Nat) (gC enF e))) true (Ob.cells true)) (ByteArray.mk #[(101 : UInt8), (116 : UInt8), (97 : UInt8), (103 : UInt8)]) == (1 : Int))) ∧
   ((bs g.6 = alV (Row.mk (List.take (List.length e * (2 : Nat)) (List.drop (0 : Nat) (gC enF e))) true (Ob.cells true)) (ByteArray.mk #[(108 : UInt8), (97 : UInt8), (115 : UInt8), (116 : UInt8), (45 : UInt8), (109 : UInt8), (111 : UInt8), (100 : UInt8), (105 : UInt8), (102 : UInt8), (105 : UInt8), (101 : UInt8), (100 : UInt8)])) ∧
   ((g.8 = (alN (Row.mk (List.take (List.length e * (2 : Nat)) (List.drop (0 : Nat) (gC enF e))) true (Ob.cells true)) (ByteArray.mk #[(108 : UInt8), (97 : UInt8), (115 : UInt8), (116 : UInt8), (45 : UInt8), (109 : UInt8), (111 : UInt8), (100 : UInt8), (105 : UInt8), (102 : UInt8), (105 : UInt8), (101 : UInt8), (100 : UInt8)]) == (1 : Int))) ∧
   (((0 : Nat) = (0 : Nat)) ∧
   (((0 : Int) = (0 : Int)) ∧
   ((Eq (α := List Value) (gC enF g.1) (gC enF d)) ∧
   ((Plain (gC enF g.1)) ∧
   ((Eq (α := List Value) (gC enF g.2) (gC enF e)) ∧
   ((Plain (gC enF g.2)) ∧
   ((Eq (α := List Value) (gC enF g.3) (gC enF q)) ∧
   ((Plain (gC enF g.3)) ∧
   ((g.4.1 = y.1) ∧
   ((g.4.2 = y.2) ∧
   ((g.4.3 = y.3) ∧
   ((g.4.4 = y.4) ∧
   (((0 : Nat) = (0 : Nat)) ∧
   ((List.length g.3 = List.length q) ∧
   ((g.4.5 = y.5) ∧
   ((ByteArray.mk #[] = ByteArray.mk #[]) ∧
   ((ByteArray.mk #[] = ByteArray.mk #[]) ∧
   ((ByteArray.mk #[] = ByteArray.mk #[]) ∧
   ((ByteArray.mk #[] = ByteArray.mk #[]) ∧
   (((0 : Int) = (0 : Int)) ∧
   ((Eq (α := List Value) ([]) ([])) ∧
   (∀ (y2 : List Fl), ((y2 = keptL g.3) →
   (br (g.7)
    (br (decide (List.length y2 + (1 : Nat) ≤ (16777216 : Nat)))
     (br (decide ((0 : Nat) + List.length y2 * (2 : Nat) ≤ List.length (gC enF y2)))
      (br (g.8)
       (br (decide (List.length y2 + (1 : Nat) + (1 : Nat) ≤ (16777216 : Nat)))
        (br (decide ((0 : Nat) + (List.length y2 + (1 : Nat)) * (2 : Nat) ≤ List.length (List.take (List.length y2 * (2 : Nat)) (List.drop (0 : Nat) (gC enF y2)) ++ [Value.string (ByteArray.mk #[(105 : UInt8), (102 : UInt8), (45 : UInt8), (110 : UInt8), (111 : UInt8), (110 : UInt8), (101 : UInt8), (45 : UInt8), (109 : UInt8), (97 : UInt8), (116 : UInt8), (99 : UInt8), (104 : UInt8)]), Value.string (bs g.5)])))
         ((y.1 = g.4.1) ∧
         ((y.2 = g.4.2) ∧
         ((y.3 = g.4.3) ∧
         ((y.4 = g.4.4) ∧
         False))))
         False)
        False)
       ((y.1 = g.4.1) ∧
       ((y.2 = g.4.2) ∧
       ((y.3 = g.4.3) ∧
       ((y.4 = g.4.4) ∧
       False)))))
      False)
     False)
    (br (g.8)
     (br (decide (List.length y2 + (1 : Nat) ≤ (16777216 : Nat)))
      (br (decide ((0 : Nat) + List.length y2 * (2 : Nat) ≤ List.length (gC enF y2)))
       ((y.1 = g.4.1) ∧
       ((y.2 = g.4.2) ∧
       ((y.3 = g.4.3) ∧
       ((y.4 = g.4.4) ∧
       False))))
       False)
      False)
     ((y.1 = g.4.1) ∧
     ((y.2 = g.4.2) ∧
     ((y.3 = g.4.3) ∧
     ((y.4 = g.4.4) ∧
     False)))))))))))))))))))))))))))))))))))))))) := by kernel_rfl
theorem cRk_ok : ∀ f a rows p v news, cRk f a rows = some (p, v, news) → p → Con Try.prog f a rows v (rows ++ news) := by
  intro f a rows p v news h hp
  have e : ∀ l, decF (gRo enF l).cells = l := fun l => decF_gC l
  unfold cRk at h
  split at h <;> simp only [Option.some.injEq, Prod.mk.injEq, reduceCtorEq] at h <;> obtain ⟨rfl, rfl, rfl⟩ := h
  · obtain ⟨⟨l, rfl, rfl⟩, h1, h2⟩ := hp
    simp only [alV, alN, alB, e, List.append_nil] at h2 ⊢
    exact Ra_con l (L _) h1 h2
theorem Rk_piece : PieceOk ERk 3 (18, pRk, specRk) := by
  refine piece_loop mixed (calls_envC cRk_ok) (lok_envC _ _ _) lm_none (n := 60) (by kernel_rfl) (fun _ : GAs => (⟨0, []⟩ : StAs)) (fun g s => s.i ≤ g.q.length ∧ s.acc = keptL (g.q.take s.i)) (fun g s => g.q.length - s.i) (sl := slRk) (rl := rlAs) (fun g hg => ⟨Nat.zero_le _, rfl⟩) (fun g s hg hi => ?_)
  refine (Rk_round g s _ _).mpr ?_
  obtain ⟨i, acc⟩ := s
  obtain ⟨h1, h2⟩ := hi
  simp only at h1 h2
  subst h2
  have hg' : g.q.length ≤ 16777000 := hg
  have hkl : (keptL (g.q.take i)).length ≤ i := Nat.le_trans (List.length_filter_le _ _) (by simp; omega)
  simp only [ofNat_eq, toNat_cast, Nat.zero_add, Nat.add_zero, Nat.mul_one, List.drop_zero, bCells_len, bCells_drop, bCells_take, bCells_app, bCells_one, bCells_plain, List.length_replicate, List.length_append, List.length_take, List.length_drop, List.take_length, and_true, true_and, and_self, decide_true, List.length_nil, List.length_cons, Nat.sub_zero, dB_mk, dB_ro, List.take_zero, fPl, fLen, fTake, true_and, and_true, Nat.zero_add, List.drop_zero, Int.toNat_natCast]
  refine br_if (fun h => br_dec (by omega) ?_) (fun h => ⟨_, by rw [List.take_of_length_le (by omega)], rfl, rfl⟩)
  have hi : i < g.q.length := by omega
  obtain ⟨c1, c2, c3, c4⟩ := fGet g.q i hi
  have w := i64_succ (show i < 9223372036854775807 by omega)
  have ht : g.q.take (i + 1) = g.q.take i ++ [g.q[i]] := List.take_succ_eq_append_getElem hi
  have hf : keptL (g.q.take (i + 1)) = keptL (g.q.take i) ++ (if cndL g.q[i].n then [] else [g.q[i]]) := by
    rw [ht]; unfold keptL; rw [List.filter_append]; congr 1
    by_cases hc : cndL g.q[i].n = true <;> simp [hc]
  have q1 : (⟨#[105, 102, 45, 110, 111, 110, 101, 45, 109, 97, 116, 99, 104]⟩ : ByteArray) = bs sInm := rfl
  have q2 : (⟨#[105, 102, 45, 109, 111, 100, 105, 102, 105, 101, 100, 45, 115, 105, 110, 99, 101]⟩ : ByteArray) = bs sIms := rfl
  have q3 : (⟨#[105, 102, 45, 109, 97, 116, 99, 104]⟩ : ByteArray) = bs sIm := rfl
  have q4 : (⟨#[105, 102, 45, 117, 110, 109, 111, 100, 105, 102, 105, 101, 100, 45, 115, 105, 110, 99, 101]⟩ : ByteArray) = bs sIus := rfl
  have q5 : (⟨#[105, 102, 45, 114, 97, 110, 103, 101]⟩ : ByteArray) = bs sIr := rfl
  have q6 : (⟨#[114, 97, 110, 103, 101]⟩ : ByteArray) = bs sRg := rfl
  simp only [c1, c2, c3, c4, w, true_and, q1, q2, q3, q4, q5, q6, strEq_bs, fOne1, gC_app]
  have yes : cndL g.q[i].n = false → ∃ j : StAs, (j.i ≤ g.q.length ∧ j.acc = keptL (g.q.take j.i)) ∧ g.q.length - j.i < g.q.length - i ∧ j.acc.length = (keptL (g.q.take i)).length + 1 ∧ (j.i : Int) = ((i + 1 : Nat) : Int) ∧ gC enF j.acc = gC enF (keptL (g.q.take i) ++ [⟨g.q[i].n, g.q[i].v⟩]) := fun k => ⟨⟨i + 1, keptL (g.q.take (i + 1))⟩, ⟨by simp only; omega, rfl⟩, by simp only; omega, by simp only [hf, k]; simp, rfl, by simp only [hf, k]; rfl⟩
  have no : cndL g.q[i].n = true → ∃ j : StAs, (j.i ≤ g.q.length ∧ j.acc = keptL (g.q.take j.i)) ∧ g.q.length - j.i < g.q.length - i ∧ j.acc.length = (keptL (g.q.take i)).length ∧ (j.i : Int) = ((i + 1 : Nat) : Int) ∧ gC enF j.acc = gC enF (keptL (g.q.take i)) := fun k => ⟨⟨i + 1, keptL (g.q.take (i + 1))⟩, ⟨by simp only; omega, rfl⟩, by simp only; omega, by simp only [hf, k]; simp, rfl, by simp only [hf, k]; simp⟩
  refine br_intro (fun k => no (by simp [cndL, of_decide_eq_true k])) (fun k1 => br_intro (fun k => no (by simp [cndL, of_decide_eq_true k])) (fun k2 => br_intro (fun k => no (by simp [cndL, of_decide_eq_true k])) (fun k3 => br_intro (fun k => no (by simp [cndL, of_decide_eq_true k])) (fun k4 => br_intro (fun k => no (by simp [cndL, of_decide_eq_true k])) (fun k5 => br_intro (fun k => no (by simp [cndL, of_decide_eq_true k])) (fun k6 => br_dec (by omega) (br_dec (by omega) (br_dec (by omega) (yes ?_)))))))))
  unfold cndL; rw [k1, k2, k3, k4, k5, k6]; rfl
theorem Rk_con (x : EnY) (y : RqY) (d e q : List Fl) (h1 : d.length ≤ maxLen) (h2 : e.length ≤ maxLen) (h3 : q.length ≤ 16777000) (b2 : BigW e) (hb : askB e = true) :
    Con Try.prog 18 [.agg ⟨enCy x 0 d.length 1 e.length⟩, .agg ⟨rqCy y 2 q.length⟩] [gRo enF d, gRo enF e, gRo enF q] (.tuple #[.agg ⟨rqCy y 3 (askL e q).length⟩, .bool true]) [gRo enF d, gRo enF e, gRo enF q, gOwn enF (askL e q)] := by
  refine con_vc (E := ERk) mixed (calls_envC cRk_ok) (lok_envC _ _ _) (M := mRk) (lm_one Rk_piece) (Rk_vc x y d e q _ _) ?_
  have hm : maxLen = 9223372036854775807 := by unfold maxLen; rfl
  have e1 : (⟨#[101, 116, 97, 103]⟩ : ByteArray) = bs sEtag := rfl
  have e2 : (⟨#[105, 102, 45, 110, 111, 110, 101, 45, 109, 97, 116, 99, 104]⟩ : ByteArray) = bs sInm := rfl
  have e3 : (⟨#[108, 97, 115, 116, 45, 109, 111, 100, 105, 102, 105, 101, 100]⟩ : ByteArray) = bs sLmod := rfl
  have e4 : (⟨#[105, 102, 45, 109, 111, 100, 105, 102, 105, 101, 100, 45, 115, 105, 110, 99, 101]⟩ : ByteArray) = bs sIms := rfl
  have a1 : ∀ (l : List Fl) b o nm, alB ⟨gC enF l, b, o⟩ (bs nm) = (allL l nm).length := fun l b o nm => by unfold alB; simp only; rw [decF_gC, L_bs]
  have a2 : ∀ (l : List Fl) b o nm, alN ⟨gC enF l, b, o⟩ (bs nm) = (allN nm l : Nat) := fun l b o nm => by unfold alN; simp only; rw [decF_gC, L_bs]
  have a3 : ∀ (l : List Fl) b o nm, alV ⟨gC enF l, b, o⟩ (bs nm) = bs (allL l nm) := fun l b o nm => by unfold alV; simp only; rw [decF_gC, L_bs]
  have z1 := b2 sEtag
  have z3 := b2 sLmod
  have on_eq : ∀ nm, (((allN nm e : Nat) : Int) == 1) = onB nm e := fun nm => by unfold onB; rw [Bool.eq_iff_iff, beq_iff_eq, decide_eq_true_eq]; omega
  have hkl : (keptL q).length ≤ q.length := List.length_filter_le _ _
  have f0 : ∀ X Y : Prop, br false X Y = Y := fun _ _ => rfl
  have f1 : ∀ X Y : Prop, br true X Y = X := fun _ _ => rfl
  have i1 : IsF ⟨gC enF e, true, .cells true⟩ e.length := isF_mk _ _ rfl
  simp only [ofNat_eq, toNat_cast, Nat.zero_add, Nat.add_zero, Nat.mul_one, List.drop_zero, bCells_len, bCells_drop, bCells_take, bCells_app, bCells_one, bCells_plain, List.length_replicate, List.length_append, List.length_take, List.length_drop, List.take_length, and_true, true_and, and_self, decide_true, List.length_nil, List.length_cons, Nat.sub_zero, dB_mk, dB_ro, List.take_zero, fPl, fLen, fTake, fOne, true_and, and_true, Nat.zero_add, List.drop_zero, e1, e2, e3, e4, a1, a2, a3, i1, on_eq]
  refine ⟨⟨by omega, by omega⟩, ⟨by omega, by omega⟩, ?_⟩
  cases ht : onB sEtag e <;> cases hc : onB sLmod e <;> simp only [f0, f1, Bool.not_true, Bool.not_false]
  · simp [askB, ht, hc] at hb
  · have hl : askL e q = keptL q ++ [(⟨sIms, allL e sLmod⟩ : Fl)] := by simp [askL, hb, ht, hc, onL]
    refine ⟨⟨d, e, q, y, allL e sEtag, allL e sLmod, false, true⟩, ?_⟩
    simp only [fPl, true_and, and_true]
    refine ⟨h3, fun y2 hy => ?_⟩
    subst hy
    rw [hl]
    simp only [f0, f1]
    refine br_dec (by omega) (br_dec (by omega) (⟨by simp, ?_⟩))
    rw [fOne1, gC_app]
  · have hl : askL e q = keptL q ++ [(⟨sInm, allL e sEtag⟩ : Fl)] := by simp [askL, hb, ht, hc, onL]
    refine ⟨⟨d, e, q, y, allL e sEtag, allL e sLmod, true, false⟩, ?_⟩
    simp only [fPl, true_and, and_true]
    refine ⟨h3, fun y2 hy => ?_⟩
    subst hy
    rw [hl]
    simp only [f0, f1]
    refine br_dec (by omega) (br_dec (by omega) (⟨by simp, ?_⟩))
    rw [fOne1, gC_app]
  · have hl : askL e q = keptL q ++ [(⟨sInm, allL e sEtag⟩ : Fl)] ++ [(⟨sIms, allL e sLmod⟩ : Fl)] := by simp [askL, hb, ht, hc, onL]
    refine ⟨⟨d, e, q, y, allL e sEtag, allL e sLmod, true, true⟩, ?_⟩
    simp only [fPl, true_and, and_true]
    refine ⟨h3, fun y2 hy => ?_⟩
    subst hy
    rw [hl]
    simp only [f0, f1]
    refine br_dec (by omega) (br_dec (by omega) (br_dec (by omega) (br_dec (by omega) (⟨by simp, ?_⟩))))
    rw [fOne1, gC_app, List.take_of_length_le (by rw [fLen]; simp), fOne1, gC_app]
theorem Rk_con0 (x : EnY) (y : RqY) (d e q : List Fl) (h1 : d.length ≤ maxLen) (h2 : e.length ≤ maxLen) (h3 : q.length ≤ 16777000) (b2 : BigW e) (hb : askB e = false) :
    Con Try.prog 18 [.agg ⟨enCy x 0 d.length 1 e.length⟩, .agg ⟨rqCy y 2 q.length⟩] [gRo enF d, gRo enF e, gRo enF q] (.tuple #[.agg ⟨rqCy y 2 q.length⟩, .bool false]) [gRo enF d, gRo enF e, gRo enF q] := by
  refine con_vc (E := ERk) mixed (calls_envC cRk_ok) (lok_envC _ _ _) (M := mRk) (lm_one Rk_piece) (Rk_vc0 x y d e q _) ?_
  have hm : maxLen = 9223372036854775807 := by unfold maxLen; rfl
  have e1 : (⟨#[101, 116, 97, 103]⟩ : ByteArray) = bs sEtag := rfl
  have e2 : (⟨#[105, 102, 45, 110, 111, 110, 101, 45, 109, 97, 116, 99, 104]⟩ : ByteArray) = bs sInm := rfl
  have e3 : (⟨#[108, 97, 115, 116, 45, 109, 111, 100, 105, 102, 105, 101, 100]⟩ : ByteArray) = bs sLmod := rfl
  have e4 : (⟨#[105, 102, 45, 109, 111, 100, 105, 102, 105, 101, 100, 45, 115, 105, 110, 99, 101]⟩ : ByteArray) = bs sIms := rfl
  have a1 : ∀ (l : List Fl) b o nm, alB ⟨gC enF l, b, o⟩ (bs nm) = (allL l nm).length := fun l b o nm => by unfold alB; simp only; rw [decF_gC, L_bs]
  have a2 : ∀ (l : List Fl) b o nm, alN ⟨gC enF l, b, o⟩ (bs nm) = (allN nm l : Nat) := fun l b o nm => by unfold alN; simp only; rw [decF_gC, L_bs]
  have a3 : ∀ (l : List Fl) b o nm, alV ⟨gC enF l, b, o⟩ (bs nm) = bs (allL l nm) := fun l b o nm => by unfold alV; simp only; rw [decF_gC, L_bs]
  have z1 := b2 sEtag
  have z3 := b2 sLmod
  have on_eq : ∀ nm, (((allN nm e : Nat) : Int) == 1) = onB nm e := fun nm => by unfold onB; rw [Bool.eq_iff_iff, beq_iff_eq, decide_eq_true_eq]; omega
  have hkl : (keptL q).length ≤ q.length := List.length_filter_le _ _
  have f0 : ∀ X Y : Prop, br false X Y = Y := fun _ _ => rfl
  have f1 : ∀ X Y : Prop, br true X Y = X := fun _ _ => rfl
  have i1 : IsF ⟨gC enF e, true, .cells true⟩ e.length := isF_mk _ _ rfl
  simp only [ofNat_eq, toNat_cast, Nat.zero_add, Nat.add_zero, Nat.mul_one, List.drop_zero, bCells_len, bCells_drop, bCells_take, bCells_app, bCells_one, bCells_plain, List.length_replicate, List.length_append, List.length_take, List.length_drop, List.take_length, and_true, true_and, and_self, decide_true, List.length_nil, List.length_cons, Nat.sub_zero, dB_mk, dB_ro, List.take_zero, fPl, fLen, fTake, fOne, true_and, and_true, Nat.zero_add, List.drop_zero, e1, e2, e3, e4, a1, a2, a3, i1, on_eq]
  refine ⟨⟨by omega, by omega⟩, ⟨by omega, by omega⟩, ?_⟩
  have ht : onB sEtag e = false := by simp [askB] at hb; exact hb.1
  have hc : onB sLmod e = false := by simp [askB] at hb; exact hb.2
  simp only [ht, hc, f0, f1, Bool.not_false]
end Go.Proofs.Ythkidlkcjohppaa.tk
