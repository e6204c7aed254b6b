/- The document's own answer: do a request's conditions hold for an entry's own response? -/
import Derived.Test.YthkidlkcjohppaaSz9
import Derived.Test.YthkidlkcjohppaaRows
import Derived.Test.YthkidlkcjohppaaLmgSame
import Derived.Test.YthkidlkcjohppaaLrtAll
import Derived.Test.YthkidlkcjohppaaLrtSplit
set_option linter.unusedSimpArgs false
set_option linter.unusedVariables false
namespace Go.Proofs.Ythkidlkcjohppaa.tk
open Go Go.Ev Go.Sy Go.RowKit Go.Proofs.Ythkidlkcjohppaa.gl
def cRu : FuncId → List Value → List Row → Option (Prop × Value × List Row)
  | 27, [.slice (some ⟨0, 0, none⟩) n 2, .string s], [r0] => some (IsF r0 n ∧ n ≤ maxLen ∧ alB r0 s ≤ 16777216, .tuple #[.string (alV r0 s), .int .i64 (alN r0 s)], [])
  | 41, [.string s], [] => some ((L s).length ≤ 16777000, .tuple #[.slice (some ⟨0, 0, none⟩) (elN s) 1, .bool (okS s)], [⟨elC s, false, .cells true⟩])
  | 42, [.string s], [] => some ((L s).length ≤ maxLen, .string (strongS s), [])
  | _, _, _ => none
noncomputable abbrev ERu : Env := envC Try.prog cRu (fun f => Nat.beq f 27 || Nat.beq f 41 || Nat.beq f 42)
def pRu : List Nat := [0, 1, 0, 1, 1, 1, 1, 1]
def slRu (g : GSm) (i : Nat) : List (Nat × Value) := [(11, .string (bs g.tag)), (12, .bool g.tagged), (13, .slice (some ⟨3, 0, none⟩) g.ps.length 1), (15, .int .i64 (i : Nat))]
def wsRu (g : GSm) : List (Gate Unit) := [⟨.exit 0, fun _ => g.ps.any (tagOk g.tagged g.tag) = false, fun _ => [], fun _ => rlSm0 g, 3⟩, ⟨.ret, fun _ => g.ps.any (tagOk g.tagged g.tag) = true, fun _ => [(4, .bool true)], fun _ => rlSm0 g, 3⟩]
def specRu : Sy.Spec := specOf 3 4 82 (fun g : GSm => g.ps.length ≤ 16777216 ∧ g.tag.length ≤ maxLen ∧ ∀ x ∈ g.ps, x.length ≤ maxLen) (fun g => slRu g 0) rlSm wsRu
def mRu := mOf [(23, pRu, specRu)]
theorem str2_vc (l v : List UInt8) : mcall E0 noM 60 42 [.string (bs l)] ⟨mkR (nums 0 []), 0⟩ (retIs 0 (.string (bs v)) []) =
  (br (decide (Int.ofNat (List.length (Array.toList (ByteArray.data (bs l)))) > (1 : Int)))
   (br (decide ((0 : Int) ≤ (↑(0 : Nat) : Int) ∧ (↑(0 : Nat) : Int) ≤ (2 : Int) ∧ (2 : Int) ≤ (↑(List.length (Array.toList (ByteArray.data (bs l)))) : Int)))
    (br (strEq (sub (bs l) (0 : Nat) (2 : Nat)) (ByteArray.mk #[(87 : UInt8), (47 : UInt8)]))
     (br (decide ((0 : Int) ≤ (2 : Int) ∧ (2 : Int) ≤ (↑(List.length (Array.toList (ByteArray.data (bs l)))) : Int) ∧ (↑(List.length (Array.toList (ByteArray.data (bs l)))) : Int) ≤ (↑(List.length (Array.toList (ByteArray.data (bs l)))) : Int)))
      ((bs v = sub (bs l) (2 : Nat) (Int.toNat (↑(List.length (Array.toList (ByteArray.data (bs l)))) : Int))) ∧
      True)
      False)
     ((bs v = bs l) ∧
     True))
    False)
   ((bs v = bs l) ∧
   True)) := by kernel_rfl
theorem Ru_round (g : GSm) (i : Nat) (Inv : Nat → Prop) (m : Nat → Nat) : mev ERu noM 60 23 (0 :: pRu) false (codeOf Try.prog 23 (0 :: pRu)) ⟨mkOv (slRu g i), 82, []⟩ none ⟨mkR (rlSm g), 4⟩ (roundK 3 4 82 Inv m (slRu g) (fun _ => rlSm g) (wsRu g) i) =
  (br (decide ((↑i : Int) < Int.ofNat (List.length g.6)))
   (br (decide ((0 : Int) ≤ (↑i : Int) ∧ (↑i : Int) < (↑(List.length g.6) : Int)))
    ((Eq (α := Option Value) ((gC enS g.6)[(0 : Nat) + Int.toNat (↑i : Int) * (1 : Nat)]?) (some (Value.string (cellS (gC enS g.6) ((0 : Nat) + Int.toNat (↑i : Int) * (1 : Nat)))))) ∧
    (br (strEq (cellS (gC enS g.6) ((0 : Nat) + Int.toNat (↑i : Int) * (1 : Nat))) (ByteArray.mk #[(42 : UInt8)]))
     (∃ y : Unit, ((List.any g.6 (tagOk (GSm.tagged g) (GSm.tag g)) = true) ∧
     ((true = true) ∧
     ((Eq (α := List Value) (gC enF g.1) (gC enF g.1)) ∧
     ((Plain (gC enF g.1)) ∧
     ((Eq (α := List Value) (gC enF g.2) (gC enF g.2)) ∧
     ((Plain (gC enF g.2)) ∧
     ((Eq (α := List Value) (gC enF g.3) (gC enF g.3)) ∧
     ((Plain (gC enF g.3)) ∧
     True)))))))))
     (br (g.5)
      (br (decide ((0 : Int) ≤ (↑i : Int) ∧ (↑i : Int) < (↑(List.length g.6) : Int)))
       ((Eq (α := Option Value) ((gC enS g.6)[(0 : Nat) + Int.toNat (↑i : Int) * (1 : Nat)]?) (some (Value.string (cellS (gC enS g.6) ((0 : Nat) + Int.toNat (↑i : Int) * (1 : Nat)))))) ∧
       ((((True ∧ True) ∧ (True ∧ List.length (L (cellS (gC enS g.6) ((0 : Nat) + Int.toNat (↑i : Int) * (1 : Nat)))) ≤ (9223372036854775807 : Nat)))) ∧
       ((((True ∧ True) ∧ (True ∧ List.length (L (bs g.4)) ≤ (9223372036854775807 : Nat)))) ∧
       (br (strEq (strongS (cellS (gC enS g.6) ((0 : Nat) + Int.toNat (↑i : Int) * (1 : Nat)))) (strongS (bs g.4)))
        (∃ y : Unit, ((List.any g.6 (tagOk (GSm.tagged g) (GSm.tag g)) = true) ∧
        ((true = true) ∧
        ((Eq (α := List Value) (gC enF g.1) (gC enF g.1)) ∧
        ((Plain (gC enF g.1)) ∧
        ((Eq (α := List Value) (gC enF g.2) (gC enF g.2)) ∧
        ((Plain (gC enF g.2)) ∧
        ((Eq (α := List Value) (gC enF g.3) (gC enF g.3)) ∧
        ((Plain (gC enF g.3)) ∧
        True)))))))))
        (∃ j : Nat, ((Inv j) ∧
        ((m j < m i) ∧
        ((bs g.4 = bs g.4) ∧
        ((g.5 = g.5) ∧
        (((0 : Nat) = (0 : Nat)) ∧
        ((List.length g.6 = List.length g.6) ∧
        (((↑j : Int) = IntKind.wrap IntKind.i64 ((↑i : Int) + (1 : Int))) ∧
        ((Eq (α := List Value) (gC enF g.1) (gC enF g.1)) ∧
        ((Plain (gC enF g.1)) ∧
        ((Eq (α := List Value) (gC enF g.2) (gC enF g.2)) ∧
        ((Plain (gC enF g.2)) ∧
        ((Eq (α := List Value) (gC enF g.3) (gC enF g.3)) ∧
        ((Plain (gC enF g.3)) ∧
        ((Eq (α := List Value) (gC enS g.6) (gC enS g.6)) ∧
        ((Plain (gC enS g.6)) ∧
        True))))))))))))))))))))
       False)
      (∃ j : Nat, ((Inv j) ∧
      ((m j < m i) ∧
      ((bs g.4 = bs g.4) ∧
      ((g.5 = g.5) ∧
      (((0 : Nat) = (0 : Nat)) ∧
      ((List.length g.6 = List.length g.6) ∧
      (((↑j : Int) = IntKind.wrap IntKind.i64 ((↑i : Int) + (1 : Int))) ∧
      ((Eq (α := List Value) (gC enF g.1) (gC enF g.1)) ∧
      ((Plain (gC enF g.1)) ∧
      ((Eq (α := List Value) (gC enF g.2) (gC enF g.2)) ∧
      ((Plain (gC enF g.2)) ∧
      ((Eq (α := List Value) (gC enF g.3) (gC enF g.3)) ∧
      ((Plain (gC enF g.3)) ∧
      ((Eq (α := List Value) (gC enS g.6) (gC enS g.6)) ∧
      ((Plain (gC enS g.6)) ∧
      True)))))))))))))))))))
    False)
   (∃ y : Unit, ((List.any g.6 (tagOk (GSm.tagged g) (GSm.tag g)) = false) ∧
   ((Eq (α := List Value) (gC enF g.1) (gC enF g.1)) ∧
   ((Plain (gC enF g.1)) ∧
   ((Eq (α := List Value) (gC enF g.2) (gC enF g.2)) ∧
   ((Plain (gC enF g.2)) ∧
   ((Eq (α := List Value) (gC enF g.3) (gC enF g.3)) ∧
   ((Plain (gC enF g.3)) ∧
   True))))))))) := by kernel_rfl
theorem Ru_vc (x : EnY) (y : RqY) (d e q : List Fl) (b : Bool) : mcall ERu mRu 60 23 [.agg ⟨enCy x 0 d.length 1 e.length⟩, .agg ⟨rqCy y 2 q.length⟩] ⟨mkR (nums 0 [gRo enF d, gRo enF e, gRo enF q]), 3⟩ (retIs 3 (.bool b) [gRo enF d, gRo enF e, gRo enF q]) =
  ((((((0 : Nat) + List.length q * (2 : Nat) ≤ List.length (gC enF q) ∧ Plain (List.take (List.length q * (2 : Nat)) (List.drop (0 : Nat) (gC enF q)))) ∧ (True ∧ True)) ∧ (True ∧ (IsF (Row.mk (List.take (List.length q * (2 : Nat)) (List.drop (0 : Nat) (gC enF q))) true (Ob.cells true)) (List.length q) ∧ (List.length q ≤ (9223372036854775807 : Nat) ∧ alB (Row.mk (List.take (List.length q * (2 : Nat)) (List.drop (0 : Nat) (gC enF q))) true (Ob.cells true)) (ByteArray.mk #[(105 : UInt8), (102 : UInt8), (45 : UInt8), (110 : UInt8), (111 : UInt8), (110 : UInt8), (101 : UInt8), (45 : UInt8), (109 : UInt8), (97 : UInt8), (116 : UInt8), (99 : UInt8), (104 : UInt8)]) ≤ (16777216 : Nat)))))) ∧
  (br (alN (Row.mk (List.take (List.length q * (2 : Nat)) (List.drop (0 : Nat) (gC enF q))) true (Ob.cells true)) (ByteArray.mk #[(105 : UInt8), (102 : UInt8), (45 : UInt8), (110 : UInt8), (111 : UInt8), (110 : UInt8), (101 : UInt8), (45 : UInt8), (109 : UInt8), (97 : UInt8), (116 : UInt8), (99 : UInt8), (104 : UInt8)]) == (0 : Int))
   ((((((0 : Nat) + List.length q * (2 : Nat) ≤ List.length (gC enF q) ∧ Plain (List.take (List.length q * (2 : Nat)) (List.drop (0 : Nat) (gC enF q)))) ∧ (True ∧ True)) ∧ (True ∧ (IsF (Row.mk (List.take (List.length q * (2 : Nat)) (List.drop (0 : Nat) (gC enF q))) true (Ob.cells true)) (List.length q) ∧ (List.length q ≤ (9223372036854775807 : Nat) ∧ alB (Row.mk (List.take (List.length q * (2 : Nat)) (List.drop (0 : Nat) (gC enF q))) true (Ob.cells true)) (ByteArray.mk #[(105 : UInt8), (102 : UInt8), (45 : UInt8), (109 : UInt8), (111 : UInt8), (100 : UInt8), (105 : UInt8), (102 : UInt8), (105 : UInt8), (101 : UInt8), (100 : UInt8), (45 : UInt8), (115 : UInt8), (105 : UInt8), (110 : UInt8), (99 : UInt8), (101 : UInt8)]) ≤ (16777216 : Nat)))))) ∧
   ((((((0 : Nat) + List.length e * (2 : Nat) ≤ List.length (gC enF e) ∧ Plain (List.take (List.length e * (2 : Nat)) (List.drop (0 : Nat) (gC enF e)))) ∧ (True ∧ True)) ∧ (True ∧ (IsF (Row.mk (List.take (List.length e * (2 : Nat)) (List.drop (0 : Nat) (gC enF e))) true (Ob.cells true)) (List.length e) ∧ (List.length e ≤ (9223372036854775807 : Nat) ∧ alB (Row.mk (List.take (List.length e * (2 : Nat)) (List.drop (0 : Nat) (gC enF e))) true (Ob.cells true)) (ByteArray.mk #[(108 : UInt8), (97 : UInt8), (115 : UInt8), (116 : UInt8), (45 : UInt8), (109 : UInt8), (111 : UInt8), (100 : UInt8), (105 : UInt8), (102 : UInt8), (105 : UInt8), (101 : UInt8), (100 : UInt8)]) ≤ (16777216 : Nat)))))) ∧
   (br (alN (Row.mk (List.take (List.length q * (2 : Nat)) (List.drop (0 : Nat) (gC enF q))) true (Ob.cells true)) (ByteArray.mk #[(105 : UInt8), (102 : UInt8), (45 : UInt8), (109 : UInt8), (111 : UInt8), (100 : UInt8), (105 : UInt8), (102 : UInt8), (105 : UInt8), (101 : UInt8), (100 : UInt8), (45 : UInt8), (115 : UInt8), (105 : UInt8), (110 : UInt8), (99 : UInt8), (101 : UInt8)]) == (1 : Int))
    (br (alN (Row.mk (List.take (List.length e * (2 : Nat)) (List.drop (0 : Nat) (gC enF e))) true (Ob.cells true)) (ByteArray.mk #[(108 : UInt8), (97 : UInt8), (115 : UInt8), (116 : UInt8), (45 : UInt8), (109 : UInt8), (111 : UInt8), (100 : UInt8), (105 : UInt8), (102 : UInt8), (105 : UInt8), (101 : UInt8), (100 : UInt8)]) == (1 : Int))
     ((b = strEq (alV (Row.mk (List.take (List.length q * (2 : Nat)) (List.drop (0 : Nat) (gC enF q))) true (Ob.cells true)) (ByteArray.mk #[(105 : UInt8), (102 : UInt8), (45 : UInt8), (109 : UInt8), (111 : UInt8), (100 : UInt8), (105 : UInt8), (102 : UInt8), (105 : UInt8), (101 : UInt8), (100 : UInt8), (45 : UInt8), (115 : UInt8), (105 : UInt8), (110 : UInt8), (99 : UInt8), (101 : UInt8)])) (alV (Row.mk (List.take (List.length e * (2 : Nat)) (List.drop (0 : Nat) (gC enF e))) true (Ob.cells true)) (ByteArray.mk #[(108 : UInt8), (97 : UInt8), (115 : UInt8), (116 : UInt8), (45 : UInt8), (109 : UInt8), (111 : UInt8), (100 : UInt8), (105 : UInt8), (102 : UInt8), (105 : UInt8), (101 : UInt8), (100 : UInt8)]))) ∧
     ((Eq (α := List Value) (gC enF d) (gC enF d)) ∧
     ((Plain (gC enF d)) ∧
     ((Eq (α := List Value) (gC enF e) (gC enF e)) ∧
     ((Plain (gC enF e)) ∧
     ((Eq (α := List Value) (gC enF q) (gC enF q)) ∧
     ((Plain (gC enF q)) ∧
     True)))))))
     ((b = false) ∧
     ((Eq (α := List Value) (gC enF d) (gC enF d)) ∧
     ((Plain (gC enF d)) ∧
     ((Eq (α := List Value) (gC enF e) (gC enF e)) ∧
     ((Plain (gC enF e)) ∧
     ((Eq (α := List Value) (gC enF q) (gC enF q)) ∧
     ((Plain (gC enF q)) ∧
     True))))))))
    ((b = false) ∧
    ((Eq (α := List Value) (gC enF d) (gC enF d)) ∧
    ((Plain (gC enF d)) ∧
    ((Eq (α := List Value) (gC enF e) (gC enF e)) ∧
    ((Plain (gC enF e)) ∧
    ((Eq (α := List Value) (gC enF q) (gC enF q)) ∧
    ((Plain (gC enF q)) ∧
    True))))))))))
   ((((((0 : Nat) + List.length e * (2 : Nat) ≤ List.length (gC enF e) ∧ Plain (List.take (List.length e * (2 : Nat)) (List.drop (0 : Nat) (gC enF e)))) ∧ (True ∧ True)) ∧ (True ∧ (IsF (Row.mk (List.take (List.length e * (2 : Nat)) (List.drop (0 : Nat) (gC enF e))) true (Ob.cells true)) (List.length e) ∧ (List.length e ≤ (9223372036854775807 : Nat) ∧ alB (Row.mk (List.take (List.length e * (2 : Nat)) (List.drop (0 : Nat) (gC enF e))) true (Ob.cells true)) (ByteArray.mk #[(101 : UInt8), (116 : UInt8), (97 : UInt8), (103 : UInt8)]) ≤ (16777216 : Nat)))))) ∧
   ((((True ∧ True) ∧ ((Plain (elC (alV (Row.mk (List.take (List.length q * (2 : Nat)) (List.drop (0 : Nat) (gC enF q))) true (Ob.cells true)) (ByteArray.mk #[(105 : UInt8), (102 : UInt8), (45 : UInt8), (110 : UInt8), (111 : UInt8), (110 : UInt8), (101 : UInt8), (45 : UInt8), (109 : UInt8), (97 : UInt8), (116 : UInt8), (99 : UInt8), (104 : UInt8)]))) ∧ True) ∧ List.length (L (alV (Row.mk (List.take (List.length q * (2 : Nat)) (List.drop (0 : Nat) (gC enF q))) true (Ob.cells true)) (ByteArray.mk #[(105 : UInt8), (102 : UInt8), (45 : UInt8), (110 : UInt8), (111 : UInt8), (110 : UInt8), (101 : UInt8), (45 : UInt8), (109 : UInt8), (97 : UInt8), (116 : UInt8), (99 : UInt8), (104 : UInt8)]))) ≤ (16777000 : Nat)))) ∧
   (∃ g : GSm, ((List.length g.6 ≤ (16777216 : Nat) ∧ List.length g.4 ≤ (9223372036854775807 : Nat) ∧ ∀ (x : List UInt8), x ∈ GSm.ps g → List.length x ≤ maxLen) ∧
   ((bs g.4 = alV (Row.mk (List.take (List.length e * (2 : Nat)) (List.drop (0 : Nat) (gC enF e))) true (Ob.cells true)) (ByteArray.mk #[(101 : UInt8), (116 : UInt8), (97 : UInt8), (103 : UInt8)])) ∧
   ((g.5 = (alN (Row.mk (List.take (List.length e * (2 : Nat)) (List.drop (0 : Nat) (gC enF e))) true (Ob.cells true)) (ByteArray.mk #[(101 : UInt8), (116 : UInt8), (97 : UInt8), (103 : UInt8)]) == (1 : Int))) ∧
   (((0 : Nat) = (0 : Nat)) ∧
   ((List.length g.6 = elN (alV (Row.mk (List.take (List.length q * (2 : Nat)) (List.drop (0 : Nat) (gC enF q))) true (Ob.cells true)) (ByteArray.mk #[(105 : UInt8), (102 : UInt8), (45 : UInt8), (110 : UInt8), (111 : UInt8), (110 : UInt8), (101 : UInt8), (45 : UInt8), (109 : UInt8), (97 : UInt8), (116 : UInt8), (99 : UInt8), (104 : UInt8)]))) ∧
   (((0 : Int) = (0 : Int)) ∧
   ((Eq (α := List Value) (gC enF g.1) (gC enF d)) ∧
   ((Plain (gC enF g.1)) ∧
   ((Eq (α := List Value) (gC enF g.2) (gC enF e)) ∧
   ((Plain (gC enF g.2)) ∧
   ((Eq (α := List Value) (gC enF g.3) (gC enF q)) ∧
   ((Plain (gC enF g.3)) ∧
   ((Eq (α := List Value) (gC enS g.6) (elC (alV (Row.mk (List.take (List.length q * (2 : Nat)) (List.drop (0 : Nat) (gC enF q))) true (Ob.cells true)) (ByteArray.mk #[(105 : UInt8), (102 : UInt8), (45 : UInt8), (110 : UInt8), (111 : UInt8), (110 : UInt8), (101 : UInt8), (45 : UInt8), (109 : UInt8), (97 : UInt8), (116 : UInt8), (99 : UInt8), (104 : UInt8)])))) ∧
   ((Plain (gC enS g.6)) ∧
   (∀ (side : Bool), (br (side)
    (∀ (y2 : Unit), ((List.any g.6 (tagOk (GSm.tagged g) (GSm.tag g)) = false) →
    ((b = false) ∧
    ((Eq (α := List Value) (gC enF d) (gC enF g.1)) ∧
    ((Plain (gC enF d)) ∧
    ((Eq (α := List Value) (gC enF e) (gC enF g.2)) ∧
    ((Plain (gC enF e)) ∧
    ((Eq (α := List Value) (gC enF q) (gC enF g.3)) ∧
    ((Plain (gC enF q)) ∧
    True)))))))))
    (∀ (y2 : Unit), ((List.any g.6 (tagOk (GSm.tagged g) (GSm.tag g)) = true) →
    ((b = true) ∧
    ((Eq (α := List Value) (gC enF d) (gC enF g.1)) ∧
    ((Plain (gC enF d)) ∧
    ((Eq (α := List Value) (gC enF e) (gC enF g.2)) ∧
    ((Plain (gC enF e)) ∧
    ((Eq (α := List Value) (gC enF q) (gC enF g.3)) ∧
    ((Plain (gC enF q)) ∧
    True)))))))))))))))))))))))))))))) := by kernel_rfl
theorem str2_con (l : List UInt8) (hl : l.length ≤ maxLen) : Con Try.prog 42 [.string (bs l)] [] (.string (bs (strongL l))) [] := by
  refine con_vc (E := E0) mixed (calls_envN _) (lok_envN _) (M := noM) lm_none (str2_vc l _) ?_
  simp only [ofNat_eq, toNat_cast, Nat.zero_add, Nat.add_zero, Nat.mul_one, List.drop_zero, bCells_len, bCells_drop, bCells_take, bCells_app, bCells_one, bCells_plain, List.length_replicate, List.length_append, List.length_take, List.length_drop, List.take_length, and_true, true_and, and_self, decide_true, List.length_nil, List.length_cons, Nat.sub_zero, dB_mk, dB_ro, List.take_zero, bs_dd]
  have hm : maxLen = 9223372036854775807 := by unfold maxLen; rfl
  have e : sub (bs l) 0 2 = bs (l.take 2) := by rw [sub_bs]; simp
  have e2 : sub (bs l) 2 l.length = bs (l.drop 2) := by rw [sub_bs, List.take_of_length_le (by simp)]
  rw [e, e2, show (⟨#[87, 47]⟩ : ByteArray) = bs [87, 47] from rfl, strEq_bs]
  unfold strongL
  refine br_if (fun h => br_dec (by omega) (br_if (fun k => br_dec (by omega) ?_) (fun k => ?_))) (fun h => ?_)
  · rw [if_pos ⟨by omega, k⟩]
  · rw [if_neg (fun hh => k hh.2)]
  · rw [if_neg (fun hh => h (by have := hh.1; omega))]
theorem cRu_ok : ∀ f a rows p v news, cRu f a rows = some (p, v, news) → p → Con Try.prog f a rows v (rows ++ news) := by
  intro f a rows p v news h hp
  have e : ∀ l, decF (gRo enF l).cells = l := fun l => decF_gC l
  unfold cRu at h
  split at h <;> simp only [Option.some.injEq, Prod.mk.injEq, reduceCtorEq] at h <;> obtain ⟨rfl, rfl, rfl⟩ := h
  · obtain ⟨⟨l, rfl, rfl⟩, h1, h2⟩ := hp
    simp only [alV, alN, alB, e, List.append_nil] at h2 ⊢
    exact Ra_con l (L _) h1 h2
  · exact Rs_con (L _) hp
  · exact str2_con (L _) hp
theorem Ru_piece : PieceOk ERu 3 (23, pRu, specRu) := by
  refine piece_loop mixed (calls_envC cRu_ok) (lok_envC _ _ _) lm_none (n := 60) (by kernel_rfl) (fun _ : GSm => (0 : Nat)) (fun g i => i ≤ g.ps.length ∧ (g.ps.take i).any (tagOk g.tagged g.tag) = false) (fun g i => g.ps.length - i) (sl := slRu) (rl := fun g _ => rlSm g) (fun g hg => ⟨Nat.zero_le _, rfl⟩) (fun g i hg hi => ?_)
  refine (Ru_round g i _ _).mpr ?_
  obtain ⟨d, e, q, tag, tagged, ps⟩ := g
  obtain ⟨g1, g2, g3⟩ := hg
  obtain ⟨h1, h2⟩ := hi
  have hm : maxLen = 9223372036854775807 := by unfold maxLen; rfl
  simp only at h1 h2 g1 g2 g3
  simp only [ofNat_eq, toNat_cast, Nat.zero_add, Nat.add_zero, Nat.mul_one, List.drop_zero, bCells_len, bCells_drop, bCells_take, bCells_app, bCells_one, bCells_plain, List.length_replicate, List.length_append, List.length_take, List.length_drop, List.take_length, and_true, true_and, and_self, decide_true, List.length_nil, List.length_cons, Nat.sub_zero, dB_mk, dB_ro, List.take_zero, fPl, sPl, sLen, fLen]
  refine br_if (fun h => br_dec (by omega) ?_) (fun h => ⟨(), by rw [List.take_of_length_le (by omega)] at h2; exact h2⟩)
  have hi : i < ps.length := by omega
  obtain ⟨c1, c2⟩ := sGet ps i hi
  have w := i64_succ (show i < 9223372036854775807 by omega)
  have ht : ps.take (i + 1) = ps.take i ++ [ps[i]] := List.take_succ_eq_append_getElem hi
  have hin := List.getElem_mem hi
  have hx := g3 _ hin
  generalize ps[i] = s at *
  have hy : tagOk tagged tag s = true → ps.any (tagOk tagged tag) = true := fun h => List.any_eq_true.2 ⟨s, hin, h⟩
  have hs : ∀ t : List UInt8, strongS (bs t) = bs (strongL t) := fun t => Eq.trans rfl rfl
  have goOn : tagOk tagged tag s = false → ∃ j, (j ≤ ps.length ∧ (ps.take j).any (tagOk tagged tag) = false) ∧ ps.length - j < ps.length - i ∧ (j : Int) = ((i + 1 : Nat) : Int) := fun h =>
    ⟨i + 1, ⟨by omega, by rw [ht, List.any_append, h2]; simp [h]⟩, by omega, rfl⟩
  simp only [c1, c2, show (⟨#[42]⟩ : ByteArray) = bs [42] from rfl, strEq_bs, hs, L_bse, w]
  unfold tagOk at hy goOn
  refine ⟨trivial, br_if (fun k => ⟨(), hy (by simp [k])⟩) (fun k => br_intro (fun t => br_dec (by omega) ⟨trivial, by omega, by omega, br_if (fun k2 => ⟨(), hy (by simp [t, k2])⟩) (fun k2 => goOn (by simp [k, k2]))⟩) (fun t => goOn (by simp [k, t])))⟩
theorem Ru_con (x : EnY) (y : RqY) (d e q : List Fl) (h1 : d.length ≤ maxLen) (h2 : e.length ≤ maxLen) (h3 : q.length ≤ maxLen) (b2 : BigW e) (b3 : BigW q) :
    Con Try.prog 23 [.agg ⟨enCy x 0 d.length 1 e.length⟩, .agg ⟨rqCy y 2 q.length⟩] [gRo enF d, gRo enF e, gRo enF q] (.bool (samL e q)) [gRo enF d, gRo enF e, gRo enF q] := by
  refine con_vc (E := ERu) mixed (calls_envC cRu_ok) (lok_envC _ _ _) (M := mRu) (lm_one Ru_piece) (Ru_vc x y d e q _) ?_
  have hm : maxLen = 9223372036854775807 := by unfold maxLen; rfl
  simp only [ofNat_eq, toNat_cast, Nat.zero_add, Nat.add_zero, Nat.mul_one, List.drop_zero, bCells_len, bCells_drop, bCells_take, bCells_app, bCells_one, bCells_plain, List.length_replicate, List.length_append, List.length_take, List.length_drop, List.take_length, and_true, true_and, and_self, decide_true, List.length_nil, List.length_cons, Nat.sub_zero, dB_mk, dB_ro, List.take_zero, fPl, sPl, sLen, fLen, fTake, L_bse]
  have e1 : (⟨#[101, 116, 97, 103]⟩ : ByteArray) = bs sEtag := rfl
  have e2 : (⟨#[105, 102, 45, 110, 111, 110, 101, 45, 109, 97, 116, 99, 104]⟩ : ByteArray) = bs sInm := rfl
  have e3 : (⟨#[108, 97, 115, 116, 45, 109, 111, 100, 105, 102, 105, 101, 100]⟩ : ByteArray) = bs sLmod := rfl
  have e4 : (⟨#[105, 102, 45, 109, 111, 100, 105, 102, 105, 101, 100, 45, 115, 105, 110, 99, 101]⟩ : ByteArray) = bs sIms := rfl
  have a1 : ∀ (l : List Fl) b o nm, alB ⟨gC enF l, b, o⟩ (bs nm) = (allL l nm).length := fun l b o nm => by unfold alB; simp only; rw [decF_gC, L_bs]
  have a2 : ∀ (l : List Fl) b o nm, alN ⟨gC enF l, b, o⟩ (bs nm) = (allN nm l : Nat) := fun l b o nm => by unfold alN; simp only; rw [decF_gC, L_bs]
  have a3 : ∀ (l : List Fl) b o nm, alV ⟨gC enF l, b, o⟩ (bs nm) = bs (allL l nm) := fun l b o nm => by unfold alV; simp only; rw [decF_gC, L_bs]
  have on_eq : ∀ (l : List Fl) nm, (((allN nm l : Nat) : Int) == 1) = onB nm l := fun l nm => by unfold onB; rw [Bool.eq_iff_iff, beq_iff_eq, decide_eq_true_eq]; omega
  simp only [e1, e2, e3, e4, a1, a2, a3, elN_bs, elC_bs, L_bse, strEq_bs, on_eq]
  have z1 := b2 sEtag
  have z2 := b3 sInm
  have z3 := b2 sLmod
  have z4 := b3 sIms
  obtain ⟨s1, s2⟩ := split_len (allL q sInm)
  refine ⟨⟨by omega, isF_mk _ _ rfl, by omega, by omega⟩, br_intro (fun k => ⟨⟨by omega, isF_mk _ _ rfl, by omega, by omega⟩, ⟨by omega, isF_mk _ _ rfl, by omega, by omega⟩, ?_⟩) (fun k => ⟨⟨by omega, isF_mk _ _ rfl, by omega, by omega⟩, ⟨sPl _, by omega⟩, ?_⟩)⟩
  · have k : allN sInm q = 0 := by
      have k : ((allN sInm q : Nat) : Int) = 0 := by simpa using k
      omega
    unfold samL; rw [if_pos k]
    refine br_intro (fun c1 => br_intro (fun c2 => ?_) (fun c2 => ?_)) (fun c1 => ?_)
    · unfold onL; rw [c1, c2]; simp
    · rw [c1, c2]; rfl
    · rw [c1]; simp
  · have k : ¬ allN sInm q = 0 := by
      have k : ¬ ((allN sInm q : Nat) : Int) = 0 := by simpa using k
      omega
    have hsam : samL e q = (elSp (allL q sInm)).any (tagOk (onB sEtag e) (allL e sEtag)) := by
      unfold samL; rw [if_neg k]
      have hf : tagOk (onB sEtag e) (onL sEtag e) = tagOk (onB sEtag e) (allL e sEtag) := by
        funext s; unfold tagOk onL
        cases onB sEtag e <;> simp
      rw [hf]
    rw [hsam]
    exact ⟨⟨d, e, q, allL e sEtag, onB sEtag e, elSp (allL q sInm)⟩, ⟨by simp only; unfold elSp; omega, by simp only; omega, fun x hx => by have := s1 x hx; omega⟩, rfl, rfl, rfl, rfl, rfl, rfl, rfl, br_side (fun _ h => ⟨h, rfl, rfl, rfl⟩) (fun _ h => ⟨h, rfl, rfl, rfl⟩)⟩
end Go.Proofs.Ythkidlkcjohppaa.tk
