/- The request by which an entry is validated. -/
import Derived.Test.YthkidlkcjohppaaSz9
import Derived.Test.YthkidlkcjohppaaRows
import Derived.Test.YthkidlkcjohppaaLmgSame
set_option linter.unusedSimpArgs false
set_option linter.unusedVariables false
namespace Go.Proofs.Ythkidlkcjohppaa.tk
open Go Go.Ev Go.Sy Go.RowKit Go.Proofs.Ythkidlkcjohppaa.gl
def sIm : List UInt8 := [105, 102, 45, 109, 97, 116, 99, 104]
def sIus : List UInt8 := [105, 102, 45, 117, 110, 109, 111, 100, 105, 102, 105, 101, 100, 45, 115, 105, 110, 99, 101]
def sIr : List UInt8 := [105, 102, 45, 114, 97, 110, 103, 101]
def sRg : List UInt8 := [114, 97, 110, 103, 101]
def cndL (s : List UInt8) : Bool := decide (s = sInm) || decide (s = sIms) || decide (s = sIm) || decide (s = sIus) || decide (s = sIr) || decide (s = sRg)
def cndS (s : ByteArray) : Bool := cndL (L s)
def cAs : FuncId → List Value → List Row → Option (Prop × Value × List Row)
  | 30, [.slice (some ⟨0, 0, none⟩) n 2, .string s], [r0] => some (IsF r0 n ∧ n ≤ maxLen ∧ alB r0 s ≤ 16777216, .tuple #[.string (onS r0 s), .bool (onR r0 s)], [])
  | 31, [.string s], [] => some (True, .bool (cndS s), [])
  | _, _, _ => none
noncomputable abbrev EAs : Env := envC Try.prog cAs (fun f => Nat.beq f 30 || Nat.beq f 31)
def keptL (q : List Fl) : List Fl := q.filter fun f => !cndL f.n
def askB (e : List Fl) : Bool := onB sEtag e || onB sLmod e
def askL (e q : List Fl) : List Fl := if askB e then keptL q ++ (if onB sEtag e then [⟨sInm, onL sEtag e⟩] else []) ++ (if onB sLmod e then [⟨sIms, onL sLmod e⟩] else []) else q
structure GAs where
  d : List Fl
  e : List Fl
  q : List Fl
  y : RqY
  tag : List UInt8
  chg : List UInt8
  tagged : Bool
  changed : Bool
structure StAs where
  i : Nat
  acc : List Fl
def pAs : List Nat := [0, 1, 0, 1, 1, 1, 1, 1]
def slA0 (g : GAs) (acc : List Fl) : List (Nat × Value) := [(3, .pointer (some ⟨3, 0, none⟩)), (4, .pointer (some ⟨4, 0, none⟩)), (6, .string (bs g.tag)), (7, .bool g.tagged), (8, .string (bs g.chg)), (9, .bool g.changed), (10, .slice (some ⟨5, 0, none⟩) acc.length 2)]
def slAs (g : GAs) (s : StAs) : List (Nat × Value) := [(3, .pointer (some ⟨3, 0, none⟩)), (4, .pointer (some ⟨4, 0, none⟩)), (6, .string (bs g.tag)), (7, .bool g.tagged), (8, .string (bs g.chg)), (9, .bool g.changed), (10, .slice (some ⟨5, 0, none⟩) s.acc.length 2), (39, .slice (some ⟨2, 0, none⟩) g.q.length 2), (40, .int .i64 (g.q.length : Nat)), (41, .int .i64 (s.i : Nat))]
def rlA0 (g : GAs) (acc : List Fl) : List (Nat × Row) := [(0, gRo enF g.d), (1, gRo enF g.e), (2, gRo enF g.q), (3, ⟨rqCy g.y 2 g.q.length, false, .cells false⟩), (4, ⟨[.string ⟨#[]⟩, .string ⟨#[]⟩, .string ⟨#[]⟩, .string ⟨#[]⟩, .slice none 0 0, .int .i64 0], false, .cells false⟩), (5, gOwn enF acc)]
def rlAs (g : GAs) (s : StAs) : List (Nat × Row) := rlA0 g s.acc
def wsAs (g : GAs) : List (Gate (List Fl)) := [⟨.exit 0, fun a => a = keptL g.q, fun a => slA0 g a, fun a => rlA0 g a, 6⟩]
def specAs : Sy.Spec := specOf 3 6 69 (fun g : GAs => g.q.length ≤ 16777000) (fun g => slAs g ⟨0, []⟩) (fun g => rlAs g ⟨0, []⟩) wsAs
def mAs := mOf [(9, pAs, specAs)]
theorem As_round (g : GAs) (s : StAs) (Inv : StAs → Prop) (m : StAs → Nat) : mev EAs noM 60 9 (0 :: pAs) false (codeOf Try.prog 9 (0 :: pAs)) ⟨mkOv (slAs g s), 69, []⟩ none ⟨mkR (rlAs g s), 6⟩ (roundK 3 6 69 Inv m (slAs g) (rlAs g) (wsAs g) s) =
  (br (decide ((↑s.1 : Int) < (↑(List.length g.3) : Int)))
   (br (decide ((0 : Int) ≤ (↑s.1 : Int) ∧ (↑s.1 : Int) < (↑(List.length g.3) : Int)))
    ((Eq (α := Option Value) ((gC enF g.3)[(0 : Nat) + Int.toNat (↑s.1 : Int) * (2 : Nat)]?) (some (Value.string (cellS (gC enF g.3) ((0 : Nat) + Int.toNat (↑s.1 : Int) * (2 : Nat)))))) ∧
    ((Eq (α := Option Value) ((gC enF g.3)[(0 : Nat) + Int.toNat (↑s.1 : Int) * (2 : Nat) + (1 : Nat)]?) (some (Value.string (cellS (gC enF g.3) ((0 : Nat) + Int.toNat (↑s.1 : Int) * (2 : Nat) + (1 : Nat)))))) ∧
    ((((True ∧ True) ∧ (True ∧ True))) ∧
    (br (!cndS (cellS (gC enF g.3) ((0 : Nat) + Int.toNat (↑s.1 : Int) * (2 : Nat))))
     (br (decide (List.length s.2 + (1 : Nat) ≤ (16777216 : Nat)))
      (br (decide ((0 : Nat) + List.length s.2 * (2 : Nat) ≤ List.length (gC enF s.2)))
       (∃ j : StAs, ((Inv j) ∧
       ((m j < m s) ∧
       (((0 : Nat) = (0 : Nat)) ∧
       (((0 : Nat) = (0 : Nat)) ∧
       ((bs g.5 = bs g.5) ∧
       ((g.7 = g.7) ∧
       ((bs g.6 = bs g.6) ∧
       ((g.8 = g.8) ∧
       (((0 : Nat) = (0 : Nat)) ∧
       ((List.length j.2 = List.length s.2 + (1 : Nat)) ∧
       (((0 : Nat) = (0 : Nat)) ∧
       ((List.length g.3 = List.length g.3) ∧
       (((↑(List.length g.3) : Int) = (↑(List.length g.3) : Int)) ∧
       (((↑j.1 : Int) = IntKind.wrap IntKind.i64 ((↑s.1 : Int) + (1 : Int))) ∧
       ((Eq (α := List Value) (gC enF g.1) (gC enF g.1)) ∧
       ((Plain (gC enF g.1)) ∧
       ((Eq (α := List Value) (gC enF g.2) (gC enF g.2)) ∧
       ((Plain (gC enF g.2)) ∧
       ((Eq (α := List Value) (gC enF g.3) (gC enF g.3)) ∧
       ((Plain (gC enF g.3)) ∧
       ((g.4.1 = g.4.1) ∧
       ((g.4.2 = g.4.2) ∧
       ((g.4.3 = g.4.3) ∧
       ((g.4.4 = g.4.4) ∧
       (((0 : Nat) = (0 : Nat)) ∧
       ((List.length g.3 = List.length g.3) ∧
       ((g.4.5 = g.4.5) ∧
       ((ByteArray.mk #[] = ByteArray.mk #[]) ∧
       ((ByteArray.mk #[] = ByteArray.mk #[]) ∧
       ((ByteArray.mk #[] = ByteArray.mk #[]) ∧
       ((ByteArray.mk #[] = ByteArray.mk #[]) ∧
       (((0 : Int) = (0 : Int)) ∧
       ((Eq (α := List Value) (gC enF j.2) (List.take (List.length s.2 * (2 : Nat)) (List.drop (0 : Nat) (gC enF s.2)) ++ [Value.string (cellS (gC enF g.3) ((0 : Nat) + Int.toNat (↑s.1 : Int) * (2 : Nat))), Value.string (cellS (gC enF g.3) ((0 : Nat) + Int.toNat (↑s.1 : Int) * (2 : Nat) + (1 : Nat)))])) ∧
       ((Plain (gC enF j.2)) ∧
       True)))))))))))))))))))))))))))))))))))
       False)
      False)
     (∃ j : StAs, ((Inv j) ∧
     ((m j < m s) ∧
     (((0 : Nat) = (0 : Nat)) ∧
     (((0 : Nat) = (0 : Nat)) ∧
     ((bs g.5 = bs g.5) ∧
     ((g.7 = g.7) ∧
     ((bs g.6 = bs g.6) ∧
     ((g.8 = g.8) ∧
     (((0 : Nat) = (0 : Nat)) ∧
     ((List.length j.2 = List.length s.2) ∧
     (((0 : Nat) = (0 : Nat)) ∧
     ((List.length g.3 = List.length g.3) ∧
     (((↑(List.length g.3) : Int) = (↑(List.length g.3) : Int)) ∧
     (((↑j.1 : Int) = IntKind.wrap IntKind.i64 ((↑s.1 : Int) + (1 : Int))) ∧
     ((Eq (α := List Value) (gC enF g.1) (gC enF g.1)) ∧
     ((Plain (gC enF g.1)) ∧
     ((Eq (α := List Value) (gC enF g.2) (gC enF g.2)) ∧
     ((Plain (gC enF g.2)) ∧
     ((Eq (α := List Value) (gC enF g.3) (gC enF g.3)) ∧
     ((Plain (gC enF g.3)) ∧
     ((g.4.1 = g.4.1) ∧
     ((g.4.2 = g.4.2) ∧
     ((g.4.3 = g.4.3) ∧
     ((g.4.4 = g.4.4) ∧
     (((0 : Nat) = (0 : Nat)) ∧
     ((List.length g.3 = List.length g.3) ∧
     ((g.4.5 = g.4.5) ∧
     ((ByteArray.mk #[] = ByteArray.mk #[]) ∧
     ((ByteArray.mk #[] = ByteArray.mk #[]) ∧
     ((ByteArray.mk #[] = ByteArray.mk #[]) ∧
     ((ByteArray.mk #[] = ByteArray.mk #[]) ∧
     (((0 : Int) = (0 : Int)) ∧
     ((Eq (α := List Value) (gC enF j.2) (gC enF s.2)) ∧
     ((Plain (gC enF j.2)) ∧
     True)))))))))))))))))))))))))))))))))))))))
    False)
   (∃ y : List Fl, ((Eq (α := List Fl) (y) (keptL g.3)) ∧
   (((0 : Nat) = (0 : Nat)) ∧
   (((0 : Nat) = (0 : Nat)) ∧
   ((bs g.5 = bs g.5) ∧
   ((g.7 = g.7) ∧
   ((bs g.6 = bs g.6) ∧
   ((g.8 = g.8) ∧
   (((0 : Nat) = (0 : Nat)) ∧
   ((List.length y = List.length s.2) ∧
   ((Eq (α := List Value) (gC enF g.1) (gC enF g.1)) ∧
   ((Plain (gC enF g.1)) ∧
   ((Eq (α := List Value) (gC enF g.2) (gC enF g.2)) ∧
   ((Plain (gC enF g.2)) ∧
   ((Eq (α := List Value) (gC enF g.3) (gC enF g.3)) ∧
   ((Plain (gC enF g.3)) ∧
   ((g.4.1 = g.4.1) ∧
   ((g.4.2 = g.4.2) ∧
   ((g.4.3 = g.4.3) ∧
   ((g.4.4 = g.4.4) ∧
   (((0 : Nat) = (0 : Nat)) ∧
   ((List.length g.3 = List.length g.3) ∧
   ((g.4.5 = g.4.5) ∧
   ((ByteArray.mk #[] = ByteArray.mk #[]) ∧
   ((ByteArray.mk #[] = ByteArray.mk #[]) ∧
   ((ByteArray.mk #[] = ByteArray.mk #[]) ∧
   ((ByteArray.mk #[] = ByteArray.mk #[]) ∧
   (((0 : Int) = (0 : Int)) ∧
   ((Eq (α := List Value) (gC enF y) (gC enF s.2)) ∧
   ((Plain (gC enF y)) ∧
   True))))))))))))))))))))))))))))))) := by kernel_rfl
theorem As_vc (x : EnY) (y : RqY) (d e q o : List Fl) (b : Bool) : mcall EAs mAs 60 9 [.agg ⟨enCy x 0 d.length 1 e.length⟩, .agg ⟨rqCy y 2 q.length⟩] ⟨mkR (nums 0 [gRo enF d, gRo enF e, gRo enF q]), 3⟩ (retIs 3 (.tuple #[.agg ⟨rqCy y 3 o.length⟩, .bool b]) [gRo enF d, gRo enF e, gRo enF q, gOwn enF o]) =
  ((((((0 : Nat) + List.length e * (2 : Nat) ≤ List.length (gC enF e) ∧ Plain (List.take (List.length e * (2 : Nat)) (List.drop (0 : Nat) (gC enF e)))) ∧ (True ∧ True)) ∧ (True ∧ (IsF (Row.mk (List.take (List.length e * (2 : Nat)) (List.drop (0 : Nat) (gC enF e))) true (Ob.cells true)) (List.length e) ∧ (List.length e ≤ (9223372036854775807 : Nat) ∧ alB (Row.mk (List.take (List.length e * (2 : Nat)) (List.drop (0 : Nat) (gC enF e))) true (Ob.cells true)) (ByteArray.mk #[(101 : UInt8), (116 : UInt8), (97 : UInt8), (103 : UInt8)]) ≤ (16777216 : Nat)))))) ∧
  ((((((0 : Nat) + List.length e * (2 : Nat) ≤ List.length (gC enF e) ∧ Plain (List.take (List.length e * (2 : Nat)) (List.drop (0 : Nat) (gC enF e)))) ∧ (True ∧ True)) ∧ (True ∧ (IsF (Row.mk (List.take (List.length e * (2 : Nat)) (List.drop (0 : Nat) (gC enF e))) true (Ob.cells true)) (List.length e) ∧ (List.length e ≤ (9223372036854775807 : Nat) ∧ alB (Row.mk (List.take (List.length e * (2 : Nat)) (List.drop (0 : Nat) (gC enF e))) true (Ob.cells true)) (ByteArray.mk #[(108 : UInt8), (97 : UInt8), (115 : UInt8), (116 : UInt8), (45 : UInt8), (109 : UInt8), (111 : UInt8), (100 : UInt8), (105 : UInt8), (102 : UInt8), (105 : UInt8), (101 : UInt8), (100 : UInt8)]) ≤ (16777216 : Nat)))))) ∧
  (br (!onR (Row.mk (List.take (List.length e * (2 : Nat)) (List.drop (0 : Nat) (gC enF e))) true (Ob.cells true)) (ByteArray.mk #[(101 : UInt8), (116 : UInt8), (97 : UInt8), (103 : UInt8)]))
   (br (!onR (Row.mk (List.take (List.length e * (2 : Nat)) (List.drop (0 : Nat) (gC enF e))) true (Ob.cells true)) (ByteArray.mk #[(108 : UInt8), (97 : UInt8), (115 : UInt8), (116 : UInt8), (45 : UInt8), (109 : UInt8), (111 : UInt8), (100 : UInt8), (105 : UInt8), (102 : UInt8), (105 : UInt8), (101 : UInt8), (100 : UInt8)]))
    (br (decide ((0 : Nat) + List.length q * (2 : Nat) ≤ List.length (gC enF q)))
     (br (allOne (List.take (List.length q * (2 : Nat)) (List.drop (0 : Nat) (gC enF q))))
      (br (decide (List.length q ≤ (16777216 : Nat)))
       ((y.1 = y.1) ∧
       ((y.2 = y.2) ∧
       ((y.3 = y.3) ∧
       ((y.4 = y.4) ∧
       (((0 : Nat) = (0 : Nat)) ∧
       ((List.length o = List.length q) ∧
       ((y.5 = y.5) ∧
       ((b = false) ∧
       ((Eq (α := List Value) (gC enF d) (gC enF d)) ∧
       ((Plain (gC enF d)) ∧
       ((Eq (α := List Value) (gC enF e) (gC enF e)) ∧
       ((Plain (gC enF e)) ∧
       ((Eq (α := List Value) (gC enF q) (gC enF q)) ∧
       ((Plain (gC enF q)) ∧
       ((Eq (α := List Value) (gC enF o) (List.take (List.length q * (2 : Nat)) (List.drop (0 : Nat) (gC enF q)))) ∧
       ((Plain (gC enF o)) ∧
       True))))))))))))))))
       False)
      False)
     False)
    (∃ g : GAs, ((List.length g.3 ≤ (16777000 : Nat)) ∧
    (((0 : Nat) = (0 : Nat)) ∧
    (((0 : Nat) = (0 : Nat)) ∧
    ((bs g.5 = onS (Row.mk (List.take (List.length e * (2 : Nat)) (List.drop (0 : Nat) (gC enF e))) true (Ob.cells true)) (ByteArray.mk #[(101 : UInt8), (116 : UInt8), (97 : UInt8), (103 : UInt8)])) ∧
    ((g.7 = onR (Row.mk (List.take (List.length e * (2 : Nat)) (List.drop (0 : Nat) (gC enF e))) true (Ob.cells true)) (ByteArray.mk #[(101 : UInt8), (116 : UInt8), (97 : UInt8), (103 : UInt8)])) ∧
    ((bs g.6 = onS (Row.mk (List.take (List.length e * (2 : Nat)) (List.drop (0 : Nat) (gC enF e))) true (Ob.cells true)) (ByteArray.mk #[(108 : UInt8), (97 : UInt8), (115 : UInt8), (116 : UInt8), (45 : UInt8), (109 : UInt8), (111 : UInt8), (100 : UInt8), (105 : UInt8), (102 : UInt8), (105 : UInt8), (101 : UInt8), (100 : UInt8)])) ∧
    ((g.8 = onR (Row.mk (List.take (List.length e * (2 : Nat)) (List.drop (0 : Nat) (gC enF e))) true (Ob.cells true)) (ByteArray.mk #[(108 : UInt8), (97 : UInt8), (115 : UInt8), (116 : UInt8), (45 : UInt8), (109 : UInt8), (111 : UInt8), (100 : UInt8), (105 : UInt8), (102 : UInt8), (105 : UInt8), (101 : UInt8), (100 : UInt8)])) ∧
    (((0 : Nat) = (0 : Nat)) ∧
    (((0 : Nat) = (0 : Nat)) ∧
    ((List.length g.3 = List.length q) ∧
    (((↑(List.length g.3) : Int) = Int.ofNat (List.length q)) ∧
    (((0 : Int) = (0 : Int)) ∧
    ((Eq (α := List Value) (gC enF g.1) (gC enF d)) ∧
    ((Plain (gC enF g.1)) ∧
    ((Eq (α := List Value) (gC enF g.2) (gC enF e)) ∧
    ((Plain (gC enF g.2)) ∧
    ((Eq (α := List Value) (gC enF g.3) (gC enF q)) ∧
    ((Plain (gC enF g.3)) ∧
    ((g.4.1 = y.1) ∧
    ((g.4.2 = y.2) ∧
    ((g.4.3 = y.3) ∧
    ((g.4.4 = y.4) ∧
    (((0 : Nat) = (0 : Nat)) ∧
    ((List.length g.3 = List.length q) ∧
    ((g.4.5 = y.5) ∧
    ((ByteArray.mk #[] = ByteArray.mk #[]) ∧
    ((ByteArray.mk #[] = ByteArray.mk #[]) ∧
    ((ByteArray.mk #[] = ByteArray.mk #[]) ∧
    ((ByteArray.mk #[] = ByteArray.mk #[]) ∧
    (((0 : Int) = (0 : Int)) ∧
    ((Eq (α := List Value) ([]) ([])) ∧
    (∀ (y2 : List Fl), ((y2 = keptL g.3) →
    (br (g.7)
     (br (decide (List.length y2 + (1 : Nat) ≤ (16777216 : Nat)))
      (br (decide ((0 : Nat) + List.length y2 * (2 : Nat) ≤ List.length (gC enF y2)))
       (br (g.8)
        (br (decide (List.length y2 + (1 : Nat) + (1 : Nat) ≤ (16777216 : Nat)))
         (br (decide ((0 : Nat) + (List.length y2 + (1 : Nat)) * (2 : Nat) ≤ List.length (List.take (List.length y2 * (2 : Nat)) (List.drop (0 : Nat) (gC enF y2)) ++ [Value.string (ByteArray.mk #[(105 : UInt8), (102 : UInt8), (45 : UInt8), (110 : UInt8), (111 : UInt8), (110 : UInt8), (101 : UInt8), (45 : UInt8), (109 : UInt8), (97 : UInt8), (116 : UInt8), (99 : UInt8), (104 : UInt8)]), Value.string (bs g.5)])))
          ((y.1 = g.4.1) ∧
          ((y.2 = g.4.2) ∧
          ((y.3 = g.4.3) ∧
          ((y.4 = g.4.4) ∧
          (((0 : Nat) = (0 : Nat)) ∧
          ((List.length o = List.length y2 + (1 : Nat) + (1 : Nat)) ∧
          ((y.5 = g.4.5) ∧
          ((b = true) ∧
          ((Eq (α := List Value) (gC enF d) (gC enF g.1)) ∧
          ((Plain (gC enF d)) ∧
          ((Eq (α := List Value) (gC enF e) (gC enF g.2)) ∧
          ((Plain (gC enF e)) ∧
          ((Eq (α := List Value) (gC enF q) (gC enF g.3)) ∧
          ((Plain (gC enF q)) ∧
          ((Eq (α := List Value) (gC enF o) (List.take ((List.length y2 + (1 : Nat)) * (2 : Nat)) (List.drop (0 : Nat) (List.take (List.length y2 * (2 : Nat)) (List.drop (0 : Nat) (gC enF y2)) ++ [Value.string (ByteArray.mk #[(105 : UInt8), (102 : UInt8), (45 : UInt8), (110 : UInt8), (111 : UInt8), (110 : UInt8), (101 : UInt8), (45 : UInt8), (109 : UInt8), (97 : UInt8), (116 : UInt8), (99 : UInt8), (104 : UInt8)]), Value.string (bs g.5)])) ++ [Value.string (ByteArray.mk #[(105 : UInt8), (102 : UInt8), (45 : UInt8), (109 : UInt8), (111 : UInt8), (100 : UInt8), (105 : UInt8), (102 : UInt8), (105 : UInt8), (101 : UInt8), (100 : UInt8), (45 : UInt8), (115 : UInt8), (105 : UInt8), (110 : UInt8), (99 : UInt8), (101 : UInt8)]), Value.string (bs g.6)])) ∧
          ((Plain (gC enF o)) ∧
          True))))))))))))))))
          False)
         False)
        ((y.1 = g.4.1) ∧
        ((y.2 = g.4.2) ∧
        ((y.3 = g.4.3) ∧
        ((y.4 = g.4.4) ∧
        (((0 : Nat) = (0 : Nat)) ∧
        ((List.length o = List.length y2 + (1 : Nat)) ∧
        ((y.5 = g.4.5) ∧
        ((b = true) ∧
        ((Eq (α := List Value) (gC enF d) (gC enF g.1)) ∧
        ((Plain (gC enF d)) ∧
        ((Eq (α := List Value) (gC enF e) (gC enF g.2)) ∧
        ((Plain (gC enF e)) ∧
        ((Eq (α := List Value) (gC enF q) (gC enF g.3)) ∧
        ((Plain (gC enF q)) ∧
        ((Eq (α := List Value) (gC enF o) (List.take (List.length y2 * (2 : Nat)) (List.drop (0 : Nat) (gC enF y2)) ++ [Value.string (ByteArray.mk #[(105 : UInt8), (102 : UInt8), (45 : UInt8), (110 : UInt8), (111 : UInt8), (110 : UInt8), (101 : UInt8), (45 : UInt8), (109 : UInt8), (97 : UInt8), (116 : UInt8), (99 : UInt8), (104 : UInt8)]), Value.string (bs g.5)])) ∧
        ((Plain (gC enF o)) ∧
        True)))))))))))))))))
       False)
      False)
     (br (g.8)
      (br (decide (List.length y2 + (1 : Nat) ≤ (16777216 : Nat)))
       (br (decide ((0 : Nat) + List.length y2 * (2 : Nat) ≤ List.length (gC enF y2)))
        ((y.1 = g.4.1) ∧
        ((y.2 = g.4.2) ∧
        ((y.3 = g.4.3) ∧
        ((y.4 = g.4.4) ∧
        (((0 : Nat) = (0 : Nat)) ∧
        ((List.length o = List.length y2 + (1 : Nat)) ∧
        ((y.5 = g.4.5) ∧
        ((b = true) ∧
        ((Eq (α := List Value) (gC enF d) (gC enF g.1)) ∧
        ((Plain (gC enF d)) ∧
        ((Eq (α := List Value) (gC enF e) (gC enF g.2)) ∧
        ((Plain (gC enF e)) ∧
        ((Eq (α := List Value) (gC enF q) (gC enF g.3)) ∧
        ((Plain (gC enF q)) ∧
        ((Eq (α := List Value) (gC enF o) (List.take (List.length y2 * (2 : Nat)) (List.drop (0 : Nat) (gC enF y2)) ++ [Value.string (ByteArray.mk #[(105 : UInt8), (102 : UInt8), (45 : UInt8), (109 : UInt8), (111 : UInt8), (100 : UInt8), (105 : UInt8), (102 : UInt8), (105 : UInt8), (101 : UInt8), (100 : UInt8), (45 : UInt8), (115 : UInt8), (105 : UInt8), (110 : UInt8), (99 : UInt8), (101 : UInt8)]), Value.string (bs g.6)])) ∧
        ((Plain (gC enF o)) ∧
        True))))))))))))))))
        False)
       False)
      ((y.1 = g.4.1) ∧
      ((y.2 = g.4.2) ∧
      ((y.3 = g.4.3) ∧
      ((y.4 = g.4.4) ∧
      (((0 : Nat) = (0 : Nat)) ∧
      ((List.length o = List.length y2) ∧
      ((y.5 = g.4.5) ∧
      ((b = true) ∧
      ((Eq (α := List Value) (gC enF d) (gC enF g.1)) ∧
      ((Plain (gC enF d)) ∧
      ((Eq (α := List Value) (gC enF e) (gC enF g.2)) ∧
      ((Plain (gC enF e)) ∧
      ((Eq (α := List Value) (gC enF q) (gC enF g.3)) ∧
      ((Plain (gC enF q)) ∧
      ((Eq (α := List Value) (gC enF o) (gC enF y2)) ∧
      ((Plain (gC enF o)) ∧
      True)))))))))))))))))))))))))))))))))))))))))))))))))))))
   (∃ g : GAs, ((List.length g.3 ≤ (16777000 : Nat)) ∧
   (((0 : Nat) = (0 : Nat)) ∧
   (((0 : Nat) = (0 : Nat)) ∧
   ((bs g.5 = onS (Row.mk (List.take (List.length e * (2 : Nat)) (List.drop (0 : Nat) (gC enF e))) true (Ob.cells true)) (ByteArray.mk #[(101 : UInt8), (116 : UInt8), (97 : UInt8), (103 : UInt8)])) ∧
   ((g.7 = onR (Row.mk (List.take (List.length e * (2 : Nat)) (List.drop (0 : Nat) (gC enF e))) true (Ob.cells true)) (ByteArray.mk #[(101 : UInt8), (116 : UInt8), (97 : UInt8), (103 : UInt8)])) ∧
   ((bs g.6 = onS (Row.mk (List.take (List.length e * (2 : Nat)) (List.drop (0 : Nat) (gC enF e))) true (Ob.cells true)) (ByteArray.mk #[(108 : UInt8), (97 : UInt8), (115 : UInt8), (116 : UInt8), (45 : UInt8), (109 : UInt8), (111 : UInt8), (100 : UInt8), (105 : UInt8), (102 : UInt8), (105 : UInt8), (101 : UInt8), (100 : UInt8)])) ∧
   ((g.8 = onR (Row.mk (List.take (List.length e * (2 : Nat)) (List.drop (0 : Nat) (gC enF e))) true (Ob.cells true)) (ByteArray.mk #[(108 : UInt8), (97 : UInt8), (115 : UInt8), (116 : UInt8), (45 : UInt8), (109 : UInt8), (111 : UInt8), (100 : UInt8), (105 : UInt8), (102 : UInt8), (105 : UInt8), (101 : UInt8), (100 : UInt8)])) ∧
   (((0 : Nat) = (0 : Nat)) ∧
   (((0 : Nat) = (0 : Nat)) ∧
   ((List.length g.3 = List.length q) ∧
   (((↑(List.length g.3) : Int) = Int.ofNat (List.length q)) ∧
   (((0 : Int) = (0 : Int)) ∧
   ((Eq (α := List Value) (gC enF g.1) (gC enF d)) ∧
   ((Plain (gC enF g.1)) ∧
   ((Eq (α := List Value) (gC enF g.2) (gC enF e)) ∧
   ((Plain (gC enF g.2)) ∧
   ((Eq (α := List Value) (gC enF g.3) (gC enF q)) ∧
   ((Plain (gC enF g.3)) ∧
   ((g.4.1 = y.1) ∧
   ((g.4.2 = y.2) ∧
   ((g.4.3 = y.3) ∧
   ((g.4.4 = y.4) ∧
   (((0 : Nat) = (0 : Nat)) ∧
   ((List.length g.3 = List.length q) ∧
   ((g.4.5 = y.5) ∧
   ((ByteArray.mk #[] = ByteArray.mk #[]) ∧
   ((ByteArray.mk #[] = ByteArray.mk #[]) ∧
   ((ByteArray.mk #[] = ByteArray.mk #[]) ∧
   ((ByteArray.mk #[] = ByteArray.mk #[]) ∧
   (((0 : Int) = (0 : Int)) ∧
   ((Eq (α := List Value) ([]) ([])) ∧
   (∀ (y2 : List Fl), ((y2 = keptL g.3) →
   (br (g.7)
    (br (decide (List.length y2 + (1 : Nat) ≤ (16777216 : Nat)))
     (br (decide ((0 : Nat) + List.length y2 * (2 : Nat) ≤ List.length (gC enF y2)))
      (br (g.8)
       (br (decide (List.length y2 + (1 : Nat) + (1 : Nat) ≤ (16777216 : Nat)))
        (br (decide ((0 : Nat) + (List.length y2 + (1 : Nat)) * (2 : Nat) ≤ List.length (List.take (List.length y2 * (2 : Nat)) (List.drop (0 : Nat) (gC enF y2)) ++ [Value.string (ByteArray.mk #[(105 : UInt8), (102 : UInt8), (45 : UInt8), (110 : UInt8), (111 : UInt8), (110 : UInt8), (101 : UInt8), (45 : UInt8), (109 : UInt8), (97 : UInt8), (116 : UInt8), (99 : UInt8), (104 : UInt8)]), Value.string (bs g.5)])))
         ((y.1 = g.4.1) ∧
         ((y.2 = g.4.2) ∧
         ((y.3 = g.4.3) ∧
         ((y.4 = g.4.4) ∧
         (((0 : Nat) = (0 : Nat)) ∧
         ((List.length o = List.length y2 + (1 : Nat) + (1 : Nat)) ∧
         ((y.5 = g.4.5) ∧
         ((b = true) ∧
         ((Eq (α := List Value) (gC enF d) (gC enF g.1)) ∧
         ((Plain (gC enF d)) ∧
         ((Eq (α := List Value) (gC enF e) (gC enF g.2)) ∧
         ((Plain (gC enF e)) ∧
         ((Eq (α := List Value) (gC enF q) (gC enF g.3)) ∧
         ((Plain (gC enF q)) ∧
         ((Eq (α := List Value) (gC enF o) (List.take ((List.length y2 + (1 : Nat)) * (2 : Nat)) (List.drop (0 : Nat) (List.take (List.length y2 * (2 : Nat)) (List.drop (0 : Nat) (gC enF y2)) ++ [Value.string (ByteArray.mk #[(105 : UInt8), (102 : UInt8), (45 : UInt8), (110 : UInt8), (111 : UInt8), (110 : UInt8), (101 : UInt8), (45 : UInt8), (109 : UInt8), (97 : UInt8), (116 : UInt8), (99 : UInt8), (104 : UInt8)]), Value.string (bs g.5)])) ++ [Value.string (ByteArray.mk #[(105 : UInt8), (102 : UInt8), (45 : UInt8), (109 : UInt8), (111 : UInt8), (100 : UInt8), (105 : UInt8), (102 : UInt8), (105 : UInt8), (101 : UInt8), (100 : UInt8), (45 : UInt8), (115 : UInt8), (105 : UInt8), (110 : UInt8), (99 : UInt8), (101 : UInt8)]), Value.string (bs g.6)])) ∧
         ((Plain (gC enF o)) ∧
         True))))))))))))))))
         False)
        False)
       ((y.1 = g.4.1) ∧
       ((y.2 = g.4.2) ∧
       ((y.3 = g.4.3) ∧
       ((y.4 = g.4.4) ∧
       (((0 : Nat) = (0 : Nat)) ∧
       ((List.length o = List.length y2 + (1 : Nat)) ∧
       ((y.5 = g.4.5) ∧
       ((b = true) ∧
       ((Eq (α := List Value) (gC enF d) (gC enF g.1)) ∧
       ((Plain (gC enF d)) ∧
       ((Eq (α := List Value) (gC enF e) (gC enF g.2)) ∧
       ((Plain (gC enF e)) ∧
       ((Eq (α := List Value) (gC enF q) (gC enF g.3)) ∧
       ((Plain (gC enF q)) ∧
       ((Eq (α := List Value) (gC enF o) (List.take (List.length y2 * (2 : Nat)) (List.drop (0 : Nat) (gC enF y2)) ++ [Value.string (ByteArray.mk #[(105 : UInt8), (102 : UInt8), (45 : UInt8), (110 : UInt8), (111 : UInt8), (110 : UInt8), (101 : UInt8), (45 : UInt8), (109 : UInt8), (97 : UInt8), (116 : UInt8), (99 : UInt8), (104 : UInt8)]), Value.string (bs g.5)])) ∧
       ((Plain (gC enF o)) ∧
       True)))))))))))))))))
      False)
     False)
    (br (g.8)
     (br (decide (List.length y2 + (1 : Nat) ≤ (16777216 : Nat)))
      (br (decide ((0 : Nat) + List.length y2 * (2 : Nat) ≤ List.length (gC enF y2)))
       ((y.1 = g.4.1) ∧
       ((y.2 = g.4.2) ∧
       ((y.3 = g.4.3) ∧
       ((y.4 = g.4.4) ∧
       (((0 : Nat) = (0 : Nat)) ∧
       ((List.length o = List.length y2 + (1 : Nat)) ∧
       ((y.5 = g.4.5) ∧
       ((b = true) ∧
       ((Eq (α := List Value) (gC enF d) (gC enF g.1)) ∧
       ((Plain (gC enF d)) ∧
       ((Eq (α := List Value) (gC enF e) (gC enF g.2)) ∧
       ((Plain (gC enF e)) ∧
       ((Eq (α := List Value) (gC enF q) (gC enF g.3)) ∧
       ((Plain (gC enF q)) ∧
       ((Eq (α := List Value) (gC enF o) (List.take (List.length y2 * (2 : Nat)) (List.drop (0 : Nat) (gC enF y2)) ++ [Value.string (ByteArray.mk #[(105 : UInt8), (102 : UInt8), (45 : UInt8), (109 : UInt8), (111 : UInt8), (100 : UInt8), (105 : UInt8), (102 : UInt8), (105 : UInt8), (101 : UInt8), (100 : UInt8), (45 : UInt8), (115 : UInt8), (105 : UInt8), (110 : UInt8), (99 : UInt8), (101 : UInt8)]), Value.string (bs g.6)])) ∧
       ((Plain (gC enF o)) ∧
       True))))))))))))))))
       False)
      False)
     ((y.1 = g.4.1) ∧
     ((y.2 = g.4.2) ∧
     ((y.3 = g.4.3) ∧
     ((y.4 = g.4.4) ∧
     (((0 : Nat) = (0 : Nat)) ∧
     ((List.length o = List.length y2) ∧
     ((y.5 = g.4.5) ∧
     ((b = true) ∧
     ((Eq (α := List Value) (gC enF d) (gC enF g.1)) ∧
     ((Plain (gC enF d)) ∧
     ((Eq (α := List Value) (gC enF e) (gC enF g.2)) ∧
     ((Plain (gC enF e)) ∧
     ((Eq (α := List Value) (gC enF q) (gC enF g.3)) ∧
     ((Plain (gC enF q)) ∧
     ((Eq (α := List Value) (gC enF o) (gC enF y2)) ∧
     ((Plain (gC enF o)) ∧
     True))))))))))))))))))))))))))))))))))))))))))))))))))))))) := by kernel_rfl
theorem cd_vc (s : List UInt8) (b : Bool) : mcall E0 noM 60 31 [.string (bs s)] ⟨mkR (nums 0 []), 0⟩ (retIs 0 (.bool b) []) =
  (br (strEq (bs s) (ByteArray.mk #[(105 : UInt8), (102 : UInt8), (45 : UInt8), (110 : UInt8), (111 : UInt8), (110 : UInt8), (101 : UInt8), (45 : UInt8), (109 : UInt8), (97 : UInt8), (116 : UInt8), (99 : UInt8), (104 : UInt8)]))
   ((b = true) ∧
   True)
   (br (strEq (bs s) (ByteArray.mk #[(105 : UInt8), (102 : UInt8), (45 : UInt8), (109 : UInt8), (111 : UInt8), (100 : UInt8), (105 : UInt8), (102 : UInt8), (105 : UInt8), (101 : UInt8), (100 : UInt8), (45 : UInt8), (115 : UInt8), (105 : UInt8), (110 : UInt8), (99 : UInt8), (101 : UInt8)]))
    ((b = true) ∧
    True)
    (br (strEq (bs s) (ByteArray.mk #[(105 : UInt8), (102 : UInt8), (45 : UInt8), (109 : UInt8), (97 : UInt8), (116 : UInt8), (99 : UInt8), (104 : UInt8)]))
     ((b = true) ∧
     True)
     (br (strEq (bs s) (ByteArray.mk #[(105 : UInt8), (102 : UInt8), (45 : UInt8), (117 : UInt8), (110 : UInt8), (109 : UInt8), (111 : UInt8), (100 : UInt8), (105 : UInt8), (102 : UInt8), (105 : UInt8), (101 : UInt8), (100 : UInt8), (45 : UInt8), (115 : UInt8), (105 : UInt8), (110 : UInt8), (99 : UInt8), (101 : UInt8)]))
      ((b = true) ∧
      True)
      (br (strEq (bs s) (ByteArray.mk #[(105 : UInt8), (102 : UInt8), (45 : UInt8), (114 : UInt8), (97 : UInt8), (110 : UInt8), (103 : UInt8), (101 : UInt8)]))
       ((b = true) ∧
       True)
       (br (strEq (bs s) (ByteArray.mk #[(114 : UInt8), (97 : UInt8), (110 : UInt8), (103 : UInt8), (101 : UInt8)]))
        ((b = true) ∧
        True)
        ((b = false) ∧
        True))))))) := by kernel_rfl
theorem cd_con (s : ByteArray) : Con Try.prog 31 [.string s] [] (.bool (cndS s)) [] := by
  obtain ⟨s, rfl⟩ : ∃ l, s = bs l := ⟨L s, rfl⟩
  refine con_vc (E := E0) mixed (calls_envN _) (lok_envN _) (M := noM) lm_none (cd_vc s _) ?_
  simp only [ofNat_eq, toNat_cast, Nat.zero_add, Nat.add_zero, Nat.mul_one, List.drop_zero, bCells_len, bCells_drop, bCells_take, bCells_app, bCells_one, bCells_plain, List.length_replicate, List.length_append, List.length_take, List.length_drop, List.take_length, and_true, true_and, and_self, decide_true, List.length_nil, List.length_cons, Nat.sub_zero, dB_mk, dB_ro, List.take_zero]
  unfold cndS cndL
  have q1 : (⟨#[105, 102, 45, 110, 111, 110, 101, 45, 109, 97, 116, 99, 104]⟩ : ByteArray) = bs sInm := rfl
  have q2 : (⟨#[105, 102, 45, 109, 111, 100, 105, 102, 105, 101, 100, 45, 115, 105, 110, 99, 101]⟩ : ByteArray) = bs sIms := rfl
  have q3 : (⟨#[105, 102, 45, 109, 97, 116, 99, 104]⟩ : ByteArray) = bs sIm := rfl
  have q4 : (⟨#[105, 102, 45, 117, 110, 109, 111, 100, 105, 102, 105, 101, 100, 45, 115, 105, 110, 99, 101]⟩ : ByteArray) = bs sIus := rfl
  have q5 : (⟨#[105, 102, 45, 114, 97, 110, 103, 101]⟩ : ByteArray) = bs sIr := rfl
  have q6 : (⟨#[114, 97, 110, 103, 101]⟩ : ByteArray) = bs sRg := rfl
  simp only [q1, q2, q3, q4, q5, q6, strEq_bs, L_bse]
  repeat' refine br_intro (fun _ => ?_) (fun _ => ?_)
  all_goals simp_all
theorem cAs_ok : ∀ f a rows p v news, cAs f a rows = some (p, v, news) → p → Con Try.prog f a rows v (rows ++ news) := by
  intro f a rows p v news h hp
  have e : ∀ l, decF (gRo enF l).cells = l := fun l => decF_gC l
  unfold cAs at h
  split at h <;> simp only [Option.some.injEq, Prod.mk.injEq, reduceCtorEq] at h <;> obtain ⟨rfl, rfl, rfl⟩ := h
  · obtain ⟨⟨l, rfl, rfl⟩, h1, h2⟩ := hp
    simp only [onS, onR, alB, e, List.append_nil] at h2 ⊢
    exact on_con l (L _) h1 h2
  · exact cd_con _
theorem As_piece : PieceOk EAs 3 (9, pAs, specAs) := by
  refine piece_loop mixed (calls_envC cAs_ok) (lok_envC _ _ _) lm_none (n := 60) (by kernel_rfl) (fun _ : GAs => (⟨0, []⟩ : StAs)) (fun g s => s.i ≤ g.q.length ∧ s.acc = keptL (g.q.take s.i)) (fun g s => g.q.length - s.i) (sl := slAs) (rl := rlAs) (fun g hg => ⟨Nat.zero_le _, rfl⟩) (fun g s hg hi => ?_)
  refine (As_round g s _ _).mpr ?_
  obtain ⟨i, acc⟩ := s
  obtain ⟨h1, h2⟩ := hi
  simp only at h1 h2
  subst h2
  have hg' : g.q.length ≤ 16777000 := hg
  have hkl : (keptL (g.q.take i)).length ≤ i := Nat.le_trans (List.length_filter_le _ _) (by simp; omega)
  simp only [ofNat_eq, toNat_cast, Nat.zero_add, Nat.add_zero, Nat.mul_one, List.drop_zero, bCells_len, bCells_drop, bCells_take, bCells_app, bCells_one, bCells_plain, List.length_replicate, List.length_append, List.length_take, List.length_drop, List.take_length, and_true, true_and, and_self, decide_true, List.length_nil, List.length_cons, Nat.sub_zero, dB_mk, dB_ro, List.take_zero, fPl, fLen, fTake, true_and, and_true, Nat.zero_add, List.drop_zero, Int.toNat_natCast]
  refine br_if (fun h => br_dec (by omega) ?_) (fun h => ⟨_, by rw [List.take_of_length_le (by omega)], rfl, rfl⟩)
  have hi : i < g.q.length := by omega
  obtain ⟨c1, c2, c3, c4⟩ := fGet g.q i hi
  have w := i64_succ (show i < 9223372036854775807 by omega)
  have ht : g.q.take (i + 1) = g.q.take i ++ [g.q[i]] := List.take_succ_eq_append_getElem hi
  have hf : keptL (g.q.take (i + 1)) = keptL (g.q.take i) ++ (if cndL g.q[i].n then [] else [g.q[i]]) := by
    rw [ht]; unfold keptL; rw [List.filter_append]; congr 1
    by_cases hc : cndL g.q[i].n = true <;> simp [hc]
  simp only [c1, c2, c3, c4, w, true_and, cndS, L_bse, fOne1, gC_app]
  refine br_intro (fun k => br_dec (by omega) (br_dec (by omega) ⟨⟨i + 1, keptL (g.q.take (i + 1))⟩, ⟨by simp only; omega, rfl⟩, by simp only; omega, ?_, rfl, ?_⟩)) (fun k => ⟨⟨i + 1, keptL (g.q.take (i + 1))⟩, ⟨by simp only; omega, rfl⟩, by simp only; omega, ?_, rfl, ?_⟩)
  · have k : cndL g.q[i].n = false := by simpa using k
    simp only [hf, k]; simp
  · have k : cndL g.q[i].n = false := by simpa using k
    simp only [hf, k]; rfl
  · have k : cndL g.q[i].n = true := by simpa using k
    simp only [hf, k]; simp
  · have k : cndL g.q[i].n = true := by simpa using k
    simp only [hf, k]; simp
theorem As_con (x : EnY) (y : RqY) (d e q : List Fl) (h1 : d.length ≤ maxLen) (h2 : e.length ≤ maxLen) (h3 : q.length ≤ 16777000) (b2 : BigW e) :
    Con Try.prog 9 [.agg ⟨enCy x 0 d.length 1 e.length⟩, .agg ⟨rqCy y 2 q.length⟩] [gRo enF d, gRo enF e, gRo enF q] (.tuple #[.agg ⟨rqCy y 3 (askL e q).length⟩, .bool (askB e)]) [gRo enF d, gRo enF e, gRo enF q, gOwn enF (askL e q)] := by
  refine con_vc (E := EAs) mixed (calls_envC cAs_ok) (lok_envC _ _ _) (M := mAs) (lm_one As_piece) (As_vc x y d e q _ _) ?_
  have hm : maxLen = 9223372036854775807 := by unfold maxLen; rfl
  have e1 : (⟨#[101, 116, 97, 103]⟩ : ByteArray) = bs sEtag := rfl
  have e2 : (⟨#[105, 102, 45, 110, 111, 110, 101, 45, 109, 97, 116, 99, 104]⟩ : ByteArray) = bs sInm := rfl
  have e3 : (⟨#[108, 97, 115, 116, 45, 109, 111, 100, 105, 102, 105, 101, 100]⟩ : ByteArray) = bs sLmod := rfl
  have e4 : (⟨#[105, 102, 45, 109, 111, 100, 105, 102, 105, 101, 100, 45, 115, 105, 110, 99, 101]⟩ : ByteArray) = bs sIms := rfl
  have a1 : ∀ (l : List Fl) b o nm, alB ⟨gC enF l, b, o⟩ (bs nm) = (allL l nm).length := fun l b o nm => by unfold alB; simp only; rw [decF_gC, L_bs]
  have a4 : ∀ (l : List Fl) b o nm, onS ⟨gC enF l, b, o⟩ (bs nm) = bs (onL nm l) := fun l b o nm => by unfold onS; simp only; rw [decF_gC, L_bs]
  have a5 : ∀ (l : List Fl) b o nm, onR ⟨gC enF l, b, o⟩ (bs nm) = onB nm l := fun l b o nm => by unfold onR; simp only; rw [decF_gC, L_bs]
  have z1 := b2 sEtag
  have z3 := b2 sLmod
  have hkl : (keptL q).length ≤ q.length := List.length_filter_le _ _
  have f0 : ∀ X Y : Prop, br false X Y = Y := fun _ _ => rfl
  have f1 : ∀ X Y : Prop, br true X Y = X := fun _ _ => rfl
  have i1 : IsF ⟨gC enF e, true, .cells true⟩ e.length := isF_mk _ _ rfl
  simp only [ofNat_eq, toNat_cast, Nat.zero_add, Nat.add_zero, Nat.mul_one, List.drop_zero, bCells_len, bCells_drop, bCells_take, bCells_app, bCells_one, bCells_plain, List.length_replicate, List.length_append, List.length_take, List.length_drop, List.take_length, and_true, true_and, and_self, decide_true, List.length_nil, List.length_cons, Nat.sub_zero, dB_mk, dB_ro, List.take_zero, fPl, fLen, fTake, fOne, true_and, and_true, Nat.zero_add, List.drop_zero, e1, e2, e3, e4, a1, a4, a5, i1]
  refine ⟨⟨by omega, by omega⟩, ⟨by omega, by omega⟩, ?_⟩
  cases ht : onB sEtag e <;> cases hc : onB sLmod e <;> simp only [f0, f1, Bool.not_true, Bool.not_false]
  · have hb : askB e = false := by simp [askB, ht, hc]
    have hl : askL e q = q := by simp [askL, hb]
    rw [hb, hl]
    exact br_dec (by omega) (br_dec (by omega) ⟨rfl, rfl, rfl⟩)
  all_goals have hb : askB e = true := by simp [askB, ht, hc]
  · refine ⟨⟨d, e, q, y, onL sEtag e, onL sLmod e, false, true⟩, ?_⟩
    have hl : askL e q = keptL q ++ [(⟨sIms, onL sLmod e⟩ : Fl)] := by simp [askL, hb, ht, hc]
    simp only [fPl, true_and, and_true]
    refine ⟨h3, fun y2 hy => ?_⟩
    subst hy
    rw [hl, hb]
    simp only [f0, f1]
    refine br_dec (by omega) (br_dec (by omega) (⟨by simp, trivial, ?_⟩))
    rw [fOne1, gC_app]
  · refine ⟨⟨d, e, q, y, onL sEtag e, onL sLmod e, true, false⟩, ?_⟩
    have hl : askL e q = keptL q ++ [(⟨sInm, onL sEtag e⟩ : Fl)] := by simp [askL, hb, ht, hc]
    simp only [fPl, true_and, and_true]
    refine ⟨h3, fun y2 hy => ?_⟩
    subst hy
    rw [hl, hb]
    simp only [f0, f1]
    refine br_dec (by omega) (br_dec (by omega) (⟨by simp, trivial, ?_⟩))
    rw [fOne1, gC_app]
  · refine ⟨⟨d, e, q, y, onL sEtag e, onL sLmod e, true, true⟩, ?_⟩
    have hl : askL e q = keptL q ++ [(⟨sInm, onL sEtag e⟩ : Fl)] ++ [(⟨sIms, onL sLmod e⟩ : Fl)] := by simp [askL, hb, ht, hc]
    simp only [fPl, true_and, and_true]
    refine ⟨h3, fun y2 hy => ?_⟩
    subst hy
    rw [hl, hb]
    simp only [f0, f1]
    refine br_dec (by omega) (br_dec (by omega) (br_dec (by omega) (br_dec (by omega) (⟨by simp, trivial, ?_⟩))))
    rw [fOne1, gC_app, List.take_of_length_le (by rw [fLen]; simp), fOne1, gC_app]
end Go.Proofs.Ythkidlkcjohppaa.tk
