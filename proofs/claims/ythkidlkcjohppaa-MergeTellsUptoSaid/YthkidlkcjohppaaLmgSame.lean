/- Do a request's conditions hold for an entry's own response? -/
import Derived.Test.YthkidlkcjohppaaSz9
import Derived.Test.YthkidlkcjohppaaRows
import Derived.Test.YthkidlkcjohppaaLtkAll
import Derived.Test.YthkidlkcjohppaaLtkSplit
import Derived.Test.YthkidlkcjohppaaLtkfacts
import Derived.Test.YthkidlkcjohppaaLlgt
import Derived.Test.YthkidlkcjohppaaLbrt
set_option linter.unusedSimpArgs false
set_option linter.unusedVariables false
namespace Go.Proofs.Ythkidlkcjohppaa.tk
open Go Go.Ev Go.Sy Go.RowKit Go.Proofs.Ythkidlkcjohppaa.gl
def sEtag : List UInt8 := [101, 116, 97, 103]
def sInm : List UInt8 := [105, 102, 45, 110, 111, 110, 101, 45, 109, 97, 116, 99, 104]
def sLmod : List UInt8 := [108, 97, 115, 116, 45, 109, 111, 100, 105, 102, 105, 101, 100]
def sIms : List UInt8 := [105, 102, 45, 109, 111, 100, 105, 102, 105, 101, 100, 45, 115, 105, 110, 99, 101]
def strongL (l : List UInt8) : List UInt8 := if 2 ≤ l.length ∧ l.take 2 = [87, 47] then l.drop 2 else l
def strongS (s : ByteArray) : ByteArray := bs (strongL (L s))
def onB (nm : List UInt8) (l : List Fl) : Bool := decide (allN nm l = 1)
def onL (nm : List UInt8) (l : List Fl) : List UInt8 := if onB nm l then allL l nm else []
def onS (r : Row) (s : ByteArray) : ByteArray := bs (onL (L s) (decF r.cells))
def onR (r : Row) (s : ByteArray) : Bool := onB (L s) (decF r.cells)
def tagOk (tagged : Bool) (tag s : List UInt8) : Bool := decide (s = [42]) || (tagged && decide (strongL s = strongL tag))
def samL (e q : List Fl) : Bool := if allN sInm q = 0 then (onB sLmod e && onB sIms q && decide (onL sIms q = onL sLmod e)) else (elSp (allL q sInm)).any (tagOk (onB sEtag e) (onL sEtag e))
def BigW (l : List Fl) : Prop := ∀ x, (allL l x).length ≤ 16777000
def BigW1 (r : Row) : Prop := BigW (decF r.cells)
def samR (r1 r2 : Row) : Bool := samL (decF r1.cells) (decF r2.cells)
def cOn : FuncId → List Value → List Row → Option (Prop × Value × List Row)
  | 32, [.slice (some ⟨0, 0, none⟩) n 2, .string s], [r0] => some (IsF r0 n ∧ n ≤ maxLen ∧ alB r0 s ≤ 16777216, .tuple #[.string (alV r0 s), .int .i64 (alN r0 s)], [])
  | _, _, _ => none
noncomputable abbrev EOn : Env := envC Try.prog cOn (fun f => Nat.beq f 32)
def cSm : FuncId → List Value → List Row → Option (Prop × Value × List Row)
  | 32, [.slice (some ⟨0, 0, none⟩) n 2, .string s], [r0] => some (IsF r0 n ∧ n ≤ maxLen ∧ alB r0 s ≤ 16777216, .tuple #[.string (alV r0 s), .int .i64 (alN r0 s)], [])
  | 30, [.slice (some ⟨0, 0, none⟩) n 2, .string s], [r0] => some (IsF r0 n ∧ n ≤ maxLen ∧ alB r0 s ≤ 16777216, .tuple #[.string (onS r0 s), .bool (onR r0 s)], [])
  | 34, [.string s], [] => some ((L s).length ≤ 16777000, .tuple #[.slice (some ⟨0, 0, none⟩) (elN s) 1, .bool (okS s)], [⟨elC s, false, .cells true⟩])
  | 35, [.string s], [] => some ((L s).length ≤ maxLen, .string (strongS s), [])
  | _, _, _ => none
noncomputable abbrev ESm : Env := envC Try.prog cSm (fun f => Nat.beq f 32 || Nat.beq f 30 || Nat.beq f 34 || Nat.beq f 35)
structure EnY where
  m : ByteArray
  s : ByteArray
  a : ByteArray
  p : ByteArray
  k : Int
  st : Int
  k2 : Int
  body : ByteArray
  asked : Int
  came : Int
structure RqY where
  m : ByteArray
  s : ByteArray
  a : ByteArray
  p : ByteArray
  k : Int
def enCy (x : EnY) (r0 n0 r1 n1 : Nat) : List Value := [.string x.m, .string x.s, .string x.a, .string x.p, .slice (some ⟨r0, 0, none⟩) n0 2, .int .i64 x.k, .int .i64 x.st, .slice (some ⟨r1, 0, none⟩) n1 2, .int .i64 x.k2, .string x.body, .int .i64 x.asked, .int .i64 x.came]
def rqCy (x : RqY) (r n : Nat) : List Value := [.string x.m, .string x.s, .string x.a, .string x.p, .slice (some ⟨r, 0, none⟩) n 2, .int .i64 x.k]
structure GSm where
  d : List Fl
  e : List Fl
  q : List Fl
  tag : List UInt8
  tagged : Bool
  ps : List (List UInt8)
def pSm : List Nat := [0, 1, 0, 1, 1, 1, 1, 1]
def slSm (g : GSm) (i : Nat) : List (Nat × Value) := [(5, .string (bs g.tag)), (6, .bool g.tagged), (59, .slice (some ⟨3, 0, none⟩) g.ps.length 1), (60, .int .i64 (g.ps.length : Nat)), (61, .int .i64 (i : Nat))]
def rlSm (g : GSm) : List (Nat × Row) := [(0, gRo enF g.d), (1, gRo enF g.e), (2, gRo enF g.q), (3, gOwn enS g.ps)]
def rlSm0 (g : GSm) : List (Nat × Row) := [(0, gRo enF g.d), (1, gRo enF g.e), (2, gRo enF g.q)]
def wsSm (g : GSm) : List (Gate Unit) := [⟨.exit 0, fun _ => g.ps.any (tagOk g.tagged g.tag) = false, fun _ => [], fun _ => rlSm0 g, 3⟩, ⟨.ret, fun _ => g.ps.any (tagOk g.tagged g.tag) = true, fun _ => [(4, .bool true)], fun _ => rlSm0 g, 3⟩]
def specSm : Sy.Spec := specOf 3 4 78 (fun g : GSm => g.ps.length ≤ 16777216 ∧ g.tag.length ≤ maxLen ∧ ∀ x ∈ g.ps, x.length ≤ maxLen) (fun g => slSm g 0) rlSm wsSm
def mSm := mOf [(14, pSm, specSm)]
theorem str_vc (l v : List UInt8) : mcall E0 noM 60 35 [.string (bs l)] ⟨mkR (nums 0 []), 0⟩ (retIs 0 (.string (bs v)) []) =
  (br (decide (Int.ofNat (List.length (Array.toList (ByteArray.data (bs l)))) ≥ (2 : Int)))
   (br (decide ((0 : Int) ≤ (↑(0 : Nat) : Int) ∧ (↑(0 : Nat) : Int) ≤ (2 : Int) ∧ (2 : Int) ≤ (↑(List.length (Array.toList (ByteArray.data (bs l)))) : Int)))
    (br (strEq (sub (bs l) (0 : Nat) (2 : Nat)) (ByteArray.mk #[(87 : UInt8), (47 : UInt8)]))
     (br (decide ((0 : Int) ≤ (2 : Int) ∧ (2 : Int) ≤ (↑(List.length (Array.toList (ByteArray.data (bs l)))) : Int) ∧ (↑(List.length (Array.toList (ByteArray.data (bs l)))) : Int) ≤ (↑(List.length (Array.toList (ByteArray.data (bs l)))) : Int)))
      ((bs v = sub (bs l) (2 : Nat) (Int.toNat (↑(List.length (Array.toList (ByteArray.data (bs l)))) : Int))) ∧
      True)
      False)
     ((bs v = bs l) ∧
     True))
    False)
   ((bs v = bs l) ∧
   True)) := by kernel_rfl
theorem on_vc (l : List Fl) (nm v : List UInt8) (b : Bool) : mcall EOn noM 60 30 [.slice (some ⟨0, 0, none⟩) l.length 2, .string (bs nm)] ⟨mkR (nums 0 [gRo enF l]), 1⟩ (retIs 1 (.tuple #[.string (bs v), .bool b]) [gRo enF l]) =
  ((((((0 : Nat) + List.length l * (2 : Nat) ≤ List.length (gC enF l) ∧ Plain (List.take (List.length l * (2 : Nat)) (List.drop (0 : Nat) (gC enF l)))) ∧ (True ∧ True)) ∧ (True ∧ (IsF (Row.mk (List.take (List.length l * (2 : Nat)) (List.drop (0 : Nat) (gC enF l))) true (Ob.cells true)) (List.length l) ∧ (List.length l ≤ (9223372036854775807 : Nat) ∧ alB (Row.mk (List.take (List.length l * (2 : Nat)) (List.drop (0 : Nat) (gC enF l))) true (Ob.cells true)) (bs nm) ≤ (16777216 : Nat)))))) ∧
  (br (alN (Row.mk (List.take (List.length l * (2 : Nat)) (List.drop (0 : Nat) (gC enF l))) true (Ob.cells true)) (bs nm) != (1 : Int))
   ((bs v = ByteArray.mk #[]) ∧
   ((b = false) ∧
   ((Eq (α := List Value) (gC enF l) (gC enF l)) ∧
   ((Plain (gC enF l)) ∧
   True))))
   ((bs v = alV (Row.mk (List.take (List.length l * (2 : Nat)) (List.drop (0 : Nat) (gC enF l))) true (Ob.cells true)) (bs nm)) ∧
   ((b = true) ∧
   ((Eq (α := List Value) (gC enF l) (gC enF l)) ∧
   ((Plain (gC enF l)) ∧
   True)))))) := by kernel_rfl
theorem Sm_round (g : GSm) (i : Nat) (Inv : Nat → Prop) (m : Nat → Nat) : mev ESm noM 60 14 (0 :: pSm) false (codeOf Try.prog 14 (0 :: pSm)) ⟨mkOv (slSm g i), 78, []⟩ none ⟨mkR (rlSm g), 4⟩ (roundK 3 4 78 Inv m (slSm g) (fun _ => rlSm g) (wsSm g) i) =
  (br (decide ((↑i : Int) < (↑(List.length g.6) : Int)))
   (br (decide ((0 : Int) ≤ (↑i : Int) ∧ (↑i : Int) < (↑(List.length g.6) : Int)))
    ((Eq (α := Option Value) ((gC enS g.6)[(0 : Nat) + Int.toNat (↑i : Int) * (1 : Nat)]?) (some (Value.string (cellS (gC enS g.6) ((0 : Nat) + Int.toNat (↑i : Int) * (1 : Nat)))))) ∧
    (br (strEq (cellS (gC enS g.6) ((0 : Nat) + Int.toNat (↑i : Int) * (1 : Nat))) (ByteArray.mk #[(42 : UInt8)]))
     (∃ y : Unit, ((List.any g.6 (tagOk (GSm.tagged g) (GSm.tag g)) = true) ∧
     ((true = true) ∧
     ((Eq (α := List Value) (gC enF g.1) (gC enF g.1)) ∧
     ((Plain (gC enF g.1)) ∧
     ((Eq (α := List Value) (gC enF g.2) (gC enF g.2)) ∧
     ((Plain (gC enF g.2)) ∧
     ((Eq (α := List Value) (gC enF g.3) (gC enF g.3)) ∧
     ((Plain (gC enF g.3)) ∧
     True)))))))))
     (br (g.5)
      ((((True ∧ True) ∧ (True ∧ List.length (L (cellS (gC enS g.6) ((0 : Nat) + Int.toNat (↑i : Int) * (1 : Nat)))) ≤ (9223372036854775807 : Nat)))) ∧
      ((((True ∧ True) ∧ (True ∧ List.length (L (bs g.4)) ≤ (9223372036854775807 : Nat)))) ∧
      (br (strEq (strongS (cellS (gC enS g.6) ((0 : Nat) + Int.toNat (↑i : Int) * (1 : Nat)))) (strongS (bs g.4)))
       (∃ y : Unit, ((List.any g.6 (tagOk (GSm.tagged g) (GSm.tag g)) = true) ∧
       ((true = true) ∧
       ((Eq (α := List Value) (gC enF g.1) (gC enF g.1)) ∧
       ((Plain (gC enF g.1)) ∧
       ((Eq (α := List Value) (gC enF g.2) (gC enF g.2)) ∧
       ((Plain (gC enF g.2)) ∧
       ((Eq (α := List Value) (gC enF g.3) (gC enF g.3)) ∧
       ((Plain (gC enF g.3)) ∧
       True)))))))))
       (∃ j : Nat, ((Inv j) ∧
       ((m j < m i) ∧
       ((bs g.4 = bs g.4) ∧
       ((g.5 = g.5) ∧
       (((0 : Nat) = (0 : Nat)) ∧
       ((List.length g.6 = List.length g.6) ∧
       (((↑(List.length g.6) : Int) = (↑(List.length g.6) : Int)) ∧
       (((↑j : Int) = IntKind.wrap IntKind.i64 ((↑i : Int) + (1 : Int))) ∧
       ((Eq (α := List Value) (gC enF g.1) (gC enF g.1)) ∧
       ((Plain (gC enF g.1)) ∧
       ((Eq (α := List Value) (gC enF g.2) (gC enF g.2)) ∧
       ((Plain (gC enF g.2)) ∧
       ((Eq (α := List Value) (gC enF g.3) (gC enF g.3)) ∧
       ((Plain (gC enF g.3)) ∧
       ((Eq (α := List Value) (gC enS g.6) (gC enS g.6)) ∧
       ((Plain (gC enS g.6)) ∧
       True))))))))))))))))))))
      (∃ j : Nat, ((Inv j) ∧
      ((m j < m i) ∧
      ((bs g.4 = bs g.4) ∧
      ((g.5 = g.5) ∧
      (((0 : Nat) = (0 : Nat)) ∧
      ((List.length g.6 = List.length g.6) ∧
      (((↑(List.length g.6) : Int) = (↑(List.length g.6) : Int)) ∧
      (((↑j : Int) = IntKind.wrap IntKind.i64 ((↑i : Int) + (1 : Int))) ∧
      ((Eq (α := List Value) (gC enF g.1) (gC enF g.1)) ∧
      ((Plain (gC enF g.1)) ∧
      ((Eq (α := List Value) (gC enF g.2) (gC enF g.2)) ∧
      ((Plain (gC enF g.2)) ∧
      ((Eq (α := List Value) (gC enF g.3) (gC enF g.3)) ∧
      ((Plain (gC enF g.3)) ∧
      ((Eq (α := List Value) (gC enS g.6) (gC enS g.6)) ∧
      ((Plain (gC enS g.6)) ∧
      True))))))))))))))))))))
    False)
   (∃ y : Unit, ((List.any g.6 (tagOk (GSm.tagged g) (GSm.tag g)) = false) ∧
   ((Eq (α := List Value) (gC enF g.1) (gC enF g.1)) ∧
   ((Plain (gC enF g.1)) ∧
   ((Eq (α := List Value) (gC enF g.2) (gC enF g.2)) ∧
   ((Plain (gC enF g.2)) ∧
   ((Eq (α := List Value) (gC enF g.3) (gC enF g.3)) ∧
   ((Plain (gC enF g.3)) ∧
   True))))))))) := by kernel_rfl
theorem Sm_vc (x : EnY) (y : RqY) (d e q : List Fl) (b : Bool) : mcall ESm mSm 60 14 [.agg ⟨enCy x 0 d.length 1 e.length⟩, .agg ⟨rqCy y 2 q.length⟩] ⟨mkR (nums 0 [gRo enF d, gRo enF e, gRo enF q]), 3⟩ (retIs 3 (.bool b) [gRo enF d, gRo enF e, gRo enF q]) =
  ((((((0 : Nat) + List.length e * (2 : Nat) ≤ List.length (gC enF e) ∧ Plain (List.take (List.length e * (2 : Nat)) (List.drop (0 : Nat) (gC enF e)))) ∧ (True ∧ True)) ∧ (True ∧ (IsF (Row.mk (List.take (List.length e * (2 : Nat)) (List.drop (0 : Nat) (gC enF e))) true (Ob.cells true)) (List.length e) ∧ (List.length e ≤ (9223372036854775807 : Nat) ∧ alB (Row.mk (List.take (List.length e * (2 : Nat)) (List.drop (0 : Nat) (gC enF e))) true (Ob.cells true)) (ByteArray.mk #[(101 : UInt8), (116 : UInt8), (97 : UInt8), (103 : UInt8)]) ≤ (16777216 : Nat)))))) ∧
  ((((((0 : Nat) + List.length q * (2 : Nat) ≤ List.length (gC enF q) ∧ Plain (List.take (List.length q * (2 : Nat)) (List.drop (0 : Nat) (gC enF q)))) ∧ (True ∧ True)) ∧ (True ∧ (IsF (Row.mk (List.take (List.length q * (2 : Nat)) (List.drop (0 : Nat) (gC enF q))) true (Ob.cells true)) (List.length q) ∧ (List.length q ≤ (9223372036854775807 : Nat) ∧ alB (Row.mk (List.take (List.length q * (2 : Nat)) (List.drop (0 : Nat) (gC enF q))) true (Ob.cells true)) (ByteArray.mk #[(105 : UInt8), (102 : UInt8), (45 : UInt8), (110 : UInt8), (111 : UInt8), (110 : UInt8), (101 : UInt8), (45 : UInt8), (109 : UInt8), (97 : UInt8), (116 : UInt8), (99 : UInt8), (104 : UInt8)]) ≤ (16777216 : Nat)))))) ∧
  (br (alN (Row.mk (List.take (List.length q * (2 : Nat)) (List.drop (0 : Nat) (gC enF q))) true (Ob.cells true)) (ByteArray.mk #[(105 : UInt8), (102 : UInt8), (45 : UInt8), (110 : UInt8), (111 : UInt8), (110 : UInt8), (101 : UInt8), (45 : UInt8), (109 : UInt8), (97 : UInt8), (116 : UInt8), (99 : UInt8), (104 : UInt8)]) == (0 : Int))
   ((((((0 : Nat) + List.length e * (2 : Nat) ≤ List.length (gC enF e) ∧ Plain (List.take (List.length e * (2 : Nat)) (List.drop (0 : Nat) (gC enF e)))) ∧ (True ∧ True)) ∧ (True ∧ (IsF (Row.mk (List.take (List.length e * (2 : Nat)) (List.drop (0 : Nat) (gC enF e))) true (Ob.cells true)) (List.length e) ∧ (List.length e ≤ (9223372036854775807 : Nat) ∧ alB (Row.mk (List.take (List.length e * (2 : Nat)) (List.drop (0 : Nat) (gC enF e))) true (Ob.cells true)) (ByteArray.mk #[(108 : UInt8), (97 : UInt8), (115 : UInt8), (116 : UInt8), (45 : UInt8), (109 : UInt8), (111 : UInt8), (100 : UInt8), (105 : UInt8), (102 : UInt8), (105 : UInt8), (101 : UInt8), (100 : UInt8)]) ≤ (16777216 : Nat)))))) ∧
   ((((((0 : Nat) + List.length q * (2 : Nat) ≤ List.length (gC enF q) ∧ Plain (List.take (List.length q * (2 : Nat)) (List.drop (0 : Nat) (gC enF q)))) ∧ (True ∧ True)) ∧ (True ∧ (IsF (Row.mk (List.take (List.length q * (2 : Nat)) (List.drop (0 : Nat) (gC enF q))) true (Ob.cells true)) (List.length q) ∧ (List.length q ≤ (9223372036854775807 : Nat) ∧ alB (Row.mk (List.take (List.length q * (2 : Nat)) (List.drop (0 : Nat) (gC enF q))) true (Ob.cells true)) (ByteArray.mk #[(105 : UInt8), (102 : UInt8), (45 : UInt8), (109 : UInt8), (111 : UInt8), (100 : UInt8), (105 : UInt8), (102 : UInt8), (105 : UInt8), (101 : UInt8), (100 : UInt8), (45 : UInt8), (115 : UInt8), (105 : UInt8), (110 : UInt8), (99 : UInt8), (101 : UInt8)]) ≤ (16777216 : Nat)))))) ∧
   (br (onR (Row.mk (List.take (List.length e * (2 : Nat)) (List.drop (0 : Nat) (gC enF e))) true (Ob.cells true)) (ByteArray.mk #[(108 : UInt8), (97 : UInt8), (115 : UInt8), (116 : UInt8), (45 : UInt8), (109 : UInt8), (111 : UInt8), (100 : UInt8), (105 : UInt8), (102 : UInt8), (105 : UInt8), (101 : UInt8), (100 : UInt8)]))
    (br (onR (Row.mk (List.take (List.length q * (2 : Nat)) (List.drop (0 : Nat) (gC enF q))) true (Ob.cells true)) (ByteArray.mk #[(105 : UInt8), (102 : UInt8), (45 : UInt8), (109 : UInt8), (111 : UInt8), (100 : UInt8), (105 : UInt8), (102 : UInt8), (105 : UInt8), (101 : UInt8), (100 : UInt8), (45 : UInt8), (115 : UInt8), (105 : UInt8), (110 : UInt8), (99 : UInt8), (101 : UInt8)]))
     ((b = strEq (onS (Row.mk (List.take (List.length q * (2 : Nat)) (List.drop (0 : Nat) (gC enF q))) true (Ob.cells true)) (ByteArray.mk #[(105 : UInt8), (102 : UInt8), (45 : UInt8), (109 : UInt8), (111 : UInt8), (100 : UInt8), (105 : UInt8), (102 : UInt8), (105 : UInt8), (101 : UInt8), (100 : UInt8), (45 : UInt8), (115 : UInt8), (105 : UInt8), (110 : UInt8), (99 : UInt8), (101 : UInt8)])) (onS (Row.mk (List.take (List.length e * (2 : Nat)) (List.drop (0 : Nat) (gC enF e))) true (Ob.cells true)) (ByteArray.mk #[(108 : UInt8), (97 : UInt8), (115 : UInt8), (116 : UInt8), (45 : UInt8), (109 : UInt8), (111 : UInt8), (100 : UInt8), (105 : UInt8), (102 : UInt8), (105 : UInt8), (101 : UInt8), (100 : UInt8)]))) ∧
     ((Eq (α := List Value) (gC enF d) (gC enF d)) ∧
     ((Plain (gC enF d)) ∧
     ((Eq (α := List Value) (gC enF e) (gC enF e)) ∧
     ((Plain (gC enF e)) ∧
     ((Eq (α := List Value) (gC enF q) (gC enF q)) ∧
     ((Plain (gC enF q)) ∧
     True)))))))
     ((b = false) ∧
     ((Eq (α := List Value) (gC enF d) (gC enF d)) ∧
     ((Plain (gC enF d)) ∧
     ((Eq (α := List Value) (gC enF e) (gC enF e)) ∧
     ((Plain (gC enF e)) ∧
     ((Eq (α := List Value) (gC enF q) (gC enF q)) ∧
     ((Plain (gC enF q)) ∧
     True))))))))
    ((b = false) ∧
    ((Eq (α := List Value) (gC enF d) (gC enF d)) ∧
    ((Plain (gC enF d)) ∧
    ((Eq (α := List Value) (gC enF e) (gC enF e)) ∧
    ((Plain (gC enF e)) ∧
    ((Eq (α := List Value) (gC enF q) (gC enF q)) ∧
    ((Plain (gC enF q)) ∧
    True))))))))))
   ((((True ∧ True) ∧ ((Plain (elC (alV (Row.mk (List.take (List.length q * (2 : Nat)) (List.drop (0 : Nat) (gC enF q))) true (Ob.cells true)) (ByteArray.mk #[(105 : UInt8), (102 : UInt8), (45 : UInt8), (110 : UInt8), (111 : UInt8), (110 : UInt8), (101 : UInt8), (45 : UInt8), (109 : UInt8), (97 : UInt8), (116 : UInt8), (99 : UInt8), (104 : UInt8)]))) ∧ True) ∧ List.length (L (alV (Row.mk (List.take (List.length q * (2 : Nat)) (List.drop (0 : Nat) (gC enF q))) true (Ob.cells true)) (ByteArray.mk #[(105 : UInt8), (102 : UInt8), (45 : UInt8), (110 : UInt8), (111 : UInt8), (110 : UInt8), (101 : UInt8), (45 : UInt8), (109 : UInt8), (97 : UInt8), (116 : UInt8), (99 : UInt8), (104 : UInt8)]))) ≤ (16777000 : Nat)))) ∧
   (∃ g : GSm, ((List.length g.6 ≤ (16777216 : Nat) ∧ List.length g.4 ≤ (9223372036854775807 : Nat) ∧ ∀ (x : List UInt8), x ∈ GSm.ps g → List.length x ≤ maxLen) ∧
   ((bs g.4 = onS (Row.mk (List.take (List.length e * (2 : Nat)) (List.drop (0 : Nat) (gC enF e))) true (Ob.cells true)) (ByteArray.mk #[(101 : UInt8), (116 : UInt8), (97 : UInt8), (103 : UInt8)])) ∧
   ((g.5 = onR (Row.mk (List.take (List.length e * (2 : Nat)) (List.drop (0 : Nat) (gC enF e))) true (Ob.cells true)) (ByteArray.mk #[(101 : UInt8), (116 : UInt8), (97 : UInt8), (103 : UInt8)])) ∧
   (((0 : Nat) = (0 : Nat)) ∧
   ((List.length g.6 = elN (alV (Row.mk (List.take (List.length q * (2 : Nat)) (List.drop (0 : Nat) (gC enF q))) true (Ob.cells true)) (ByteArray.mk #[(105 : UInt8), (102 : UInt8), (45 : UInt8), (110 : UInt8), (111 : UInt8), (110 : UInt8), (101 : UInt8), (45 : UInt8), (109 : UInt8), (97 : UInt8), (116 : UInt8), (99 : UInt8), (104 : UInt8)]))) ∧
   (((↑(List.length g.6) : Int) = Int.ofNat (elN (alV (Row.mk (List.take (List.length q * (2 : Nat)) (List.drop (0 : Nat) (gC enF q))) true (Ob.cells true)) (ByteArray.mk #[(105 : UInt8), (102 : UInt8), (45 : UInt8), (110 : UInt8), (111 : UInt8), (110 : UInt8), (101 : UInt8), (45 : UInt8), (109 : UInt8), (97 : UInt8), (116 : UInt8), (99 : UInt8), (104 : UInt8)])))) ∧
   (((0 : Int) = (0 : Int)) ∧
   ((Eq (α := List Value) (gC enF g.1) (gC enF d)) ∧
   ((Plain (gC enF g.1)) ∧
   ((Eq (α := List Value) (gC enF g.2) (gC enF e)) ∧
   ((Plain (gC enF g.2)) ∧
   ((Eq (α := List Value) (gC enF g.3) (gC enF q)) ∧
   ((Plain (gC enF g.3)) ∧
   ((Eq (α := List Value) (gC enS g.6) (elC (alV (Row.mk (List.take (List.length q * (2 : Nat)) (List.drop (0 : Nat) (gC enF q))) true (Ob.cells true)) (ByteArray.mk #[(105 : UInt8), (102 : UInt8), (45 : UInt8), (110 : UInt8), (111 : UInt8), (110 : UInt8), (101 : UInt8), (45 : UInt8), (109 : UInt8), (97 : UInt8), (116 : UInt8), (99 : UInt8), (104 : UInt8)])))) ∧
   ((Plain (gC enS g.6)) ∧
   (∀ (side : Bool), (br (side)
    (∀ (y2 : Unit), ((List.any g.6 (tagOk (GSm.tagged g) (GSm.tag g)) = false) →
    ((b = false) ∧
    ((Eq (α := List Value) (gC enF d) (gC enF g.1)) ∧
    ((Plain (gC enF d)) ∧
    ((Eq (α := List Value) (gC enF e) (gC enF g.2)) ∧
    ((Plain (gC enF e)) ∧
    ((Eq (α := List Value) (gC enF q) (gC enF g.3)) ∧
    ((Plain (gC enF q)) ∧
    True)))))))))
    (∀ (y2 : Unit), ((List.any g.6 (tagOk (GSm.tagged g) (GSm.tag g)) = true) →
    ((b = true) ∧
    ((Eq (α := List Value) (gC enF d) (gC enF g.1)) ∧
    ((Plain (gC enF d)) ∧
    ((Eq (α := List Value) (gC enF e) (gC enF g.2)) ∧
    ((Plain (gC enF e)) ∧
    ((Eq (α := List Value) (gC enF q) (gC enF g.3)) ∧
    ((Plain (gC enF q)) ∧
    True))))))))))))))))))))))))))))))) := by kernel_rfl
theorem L_bse (l : List UInt8) : L (bs l) = l := Eq.trans rfl rfl
theorem str_con (l : List UInt8) (hl : l.length ≤ maxLen) : Con Try.prog 35 [.string (bs l)] [] (.string (bs (strongL l))) [] := by
  refine con_vc (E := E0) mixed (calls_envN _) (lok_envN _) (M := noM) lm_none (str_vc l _) ?_
  simp only [ofNat_eq, toNat_cast, Nat.zero_add, Nat.add_zero, Nat.mul_one, List.drop_zero, bCells_len, bCells_drop, bCells_take, bCells_app, bCells_one, bCells_plain, List.length_replicate, List.length_append, List.length_take, List.length_drop, List.take_length, and_true, true_and, and_self, decide_true, List.length_nil, List.length_cons, Nat.sub_zero, dB_mk, dB_ro, List.take_zero, bs_dd]
  have hm : maxLen = 9223372036854775807 := by unfold maxLen; rfl
  have e : sub (bs l) 0 2 = bs (l.take 2) := by rw [sub_bs]; simp
  have e2 : sub (bs l) 2 l.length = bs (l.drop 2) := by rw [sub_bs, List.take_of_length_le (by simp)]
  rw [e, e2, show (⟨#[87, 47]⟩ : ByteArray) = bs [87, 47] from rfl, strEq_bs]
  unfold strongL
  refine br_if (fun h => br_dec (by omega) (br_if (fun k => br_dec (by omega) ?_) (fun k => ?_))) (fun h => ?_)
  · rw [if_pos ⟨by omega, k⟩]
  · rw [if_neg (fun hh => k hh.2)]
  · rw [if_neg (fun hh => h (by have := hh.1; omega))]
theorem cOn_ok : ∀ f a rows p v news, cOn f a rows = some (p, v, news) → p → Con Try.prog f a rows v (rows ++ news) := by
  intro f a rows p v news h hp
  have e : ∀ l, decF (gRo enF l).cells = l := fun l => decF_gC l
  unfold cOn at h
  split at h <;> simp only [Option.some.injEq, Prod.mk.injEq, reduceCtorEq] at h <;> obtain ⟨rfl, rfl, rfl⟩ := h
  · obtain ⟨⟨l, rfl, rfl⟩, h1, h2⟩ := hp
    simp only [alV, alN, alB, e, List.append_nil] at h2 ⊢
    exact Al_con l (L _) h1 h2
theorem on_con (l : List Fl) (nm : List UInt8) (hl : l.length ≤ maxLen) (h : (allL l nm).length ≤ 16777216) : Con Try.prog 30 [.slice (some ⟨0, 0, none⟩) l.length 2, .string (bs nm)] [gRo enF l] (.tuple #[.string (bs (onL nm l)), .bool (onB nm l)]) [gRo enF l] := by
  refine con_vc (E := EOn) mixed (calls_envC cOn_ok) (lok_envC _ _ _) (M := noM) lm_none (on_vc l nm _ _) ?_
  have hm : maxLen = 9223372036854775807 := by unfold maxLen; rfl
  simp only [ofNat_eq, toNat_cast, Nat.zero_add, Nat.add_zero, Nat.mul_one, List.drop_zero, bCells_len, bCells_drop, bCells_take, bCells_app, bCells_one, bCells_plain, List.length_replicate, List.length_append, List.length_take, List.length_drop, List.take_length, and_true, true_and, and_self, decide_true, List.length_nil, List.length_cons, Nat.sub_zero, dB_mk, dB_ro, List.take_zero, bs_dd, fPl, fLen, fTake]
  have a1 : ∀ b o, alB ⟨gC enF l, b, o⟩ (bs nm) = (allL l nm).length := fun b o => by unfold alB; simp only; rw [decF_gC, L_bs]
  have a2 : ∀ b o, alN ⟨gC enF l, b, o⟩ (bs nm) = (allN nm l : Nat) := fun b o => by unfold alN; simp only; rw [decF_gC, L_bs]
  have a3 : ∀ b o, alV ⟨gC enF l, b, o⟩ (bs nm) = bs (allL l nm) := fun b o => by unfold alV; simp only; rw [decF_gC, L_bs]
  simp only [a1, a2, a3]
  refine ⟨⟨by omega, isF_mk _ _ rfl, by omega, h⟩, br_intro (fun k => ?_) (fun k => ?_)⟩
  · have k : onB nm l = false := by
      have k : ¬ ((allN nm l : Nat) : Int) = 1 := by simpa using k
      unfold onB; exact decide_eq_false (by omega)
    unfold onL; rw [k]; exact ⟨rfl, rfl⟩
  · have k : onB nm l = true := by
      have k : ((allN nm l : Nat) : Int) = 1 := by simpa using k
      unfold onB; exact decide_eq_true (by omega)
    unfold onL; rw [k]; exact ⟨rfl, rfl⟩
theorem cSm_ok : ∀ f a rows p v news, cSm f a rows = some (p, v, news) → p → Con Try.prog f a rows v (rows ++ news) := by
  intro f a rows p v news h hp
  have e : ∀ l, decF (gRo enF l).cells = l := fun l => decF_gC l
  unfold cSm at h
  split at h <;> simp only [Option.some.injEq, Prod.mk.injEq, reduceCtorEq] at h <;> obtain ⟨rfl, rfl, rfl⟩ := h
  · obtain ⟨⟨l, rfl, rfl⟩, h1, h2⟩ := hp
    simp only [alV, alN, alB, e, List.append_nil] at h2 ⊢
    exact Al_con l (L _) h1 h2
  · obtain ⟨⟨l, rfl, rfl⟩, h1, h2⟩ := hp
    simp only [onS, onR, alB, e, List.append_nil] at h2 ⊢
    exact on_con l (L _) h1 h2
  · exact Sp_con (L _) hp
  · exact str_con (L _) hp
theorem Sm_piece : PieceOk ESm 3 (14, pSm, specSm) := by
  refine piece_loop mixed (calls_envC cSm_ok) (lok_envC _ _ _) lm_none (n := 60) (by kernel_rfl) (fun _ : GSm => (0 : Nat)) (fun g i => i ≤ g.ps.length ∧ (g.ps.take i).any (tagOk g.tagged g.tag) = false) (fun g i => g.ps.length - i) (sl := slSm) (rl := fun g _ => rlSm g) (fun g hg => ⟨Nat.zero_le _, rfl⟩) (fun g i hg hi => ?_)
  refine (Sm_round g i _ _).mpr ?_
  obtain ⟨d, e, q, tag, tagged, ps⟩ := g
  obtain ⟨g1, g2, g3⟩ := hg
  obtain ⟨h1, h2⟩ := hi
  have hm : maxLen = 9223372036854775807 := by unfold maxLen; rfl
  simp only at h1 h2 g1 g2 g3
  simp only [ofNat_eq, toNat_cast, Nat.zero_add, Nat.add_zero, Nat.mul_one, List.drop_zero, bCells_len, bCells_drop, bCells_take, bCells_app, bCells_one, bCells_plain, List.length_replicate, List.length_append, List.length_take, List.length_drop, List.take_length, and_true, true_and, and_self, decide_true, List.length_nil, List.length_cons, Nat.sub_zero, dB_mk, dB_ro, List.take_zero, fPl, sPl, sLen, fLen]
  refine br_if (fun h => br_dec (by omega) ?_) (fun h => ⟨(), by rw [List.take_of_length_le (by omega)] at h2; exact h2⟩)
  have hi : i < ps.length := by omega
  obtain ⟨c1, c2⟩ := sGet ps i hi
  have w := i64_succ (show i < 9223372036854775807 by omega)
  have ht : ps.take (i + 1) = ps.take i ++ [ps[i]] := List.take_succ_eq_append_getElem hi
  have hin := List.getElem_mem hi
  have hx := g3 _ hin
  generalize ps[i] = s at *
  have hy : tagOk tagged tag s = true → ps.any (tagOk tagged tag) = true := fun h => List.any_eq_true.2 ⟨s, hin, h⟩
  have hs : ∀ t : List UInt8, strongS (bs t) = bs (strongL t) := fun t => Eq.trans rfl rfl
  have goOn : tagOk tagged tag s = false → ∃ j, (j ≤ ps.length ∧ (ps.take j).any (tagOk tagged tag) = false) ∧ ps.length - j < ps.length - i ∧ (j : Int) = ((i + 1 : Nat) : Int) := fun h =>
    ⟨i + 1, ⟨by omega, by rw [ht, List.any_append, h2]; simp [h]⟩, by omega, rfl⟩
  simp only [c1, c2, show (⟨#[42]⟩ : ByteArray) = bs [42] from rfl, strEq_bs, hs, L_bse, w]
  unfold tagOk at hy goOn
  refine ⟨trivial, br_if (fun k => ⟨(), hy (by simp [k])⟩) (fun k => br_intro (fun t => ⟨by omega, by omega, br_if (fun k2 => ⟨(), hy (by simp [t, k2])⟩) (fun k2 => goOn (by simp [k, k2]))⟩) (fun t => goOn (by simp [k, t])))⟩
theorem Sm_con (x : EnY) (y : RqY) (d e q : List Fl) (h1 : d.length ≤ maxLen) (h2 : e.length ≤ maxLen) (h3 : q.length ≤ maxLen) (b2 : BigW e) (b3 : BigW q) :
    Con Try.prog 14 [.agg ⟨enCy x 0 d.length 1 e.length⟩, .agg ⟨rqCy y 2 q.length⟩] [gRo enF d, gRo enF e, gRo enF q] (.bool (samL e q)) [gRo enF d, gRo enF e, gRo enF q] := by
  refine con_vc (E := ESm) mixed (calls_envC cSm_ok) (lok_envC _ _ _) (M := mSm) (lm_one Sm_piece) (Sm_vc x y d e q _) ?_
  have hm : maxLen = 9223372036854775807 := by unfold maxLen; rfl
  simp only [ofNat_eq, toNat_cast, Nat.zero_add, Nat.add_zero, Nat.mul_one, List.drop_zero, bCells_len, bCells_drop, bCells_take, bCells_app, bCells_one, bCells_plain, List.length_replicate, List.length_append, List.length_take, List.length_drop, List.take_length, and_true, true_and, and_self, decide_true, List.length_nil, List.length_cons, Nat.sub_zero, dB_mk, dB_ro, List.take_zero, fPl, sPl, sLen, fLen, fTake, L_bse]
  have e1 : (⟨#[101, 116, 97, 103]⟩ : ByteArray) = bs sEtag := rfl
  have e2 : (⟨#[105, 102, 45, 110, 111, 110, 101, 45, 109, 97, 116, 99, 104]⟩ : ByteArray) = bs sInm := rfl
  have e3 : (⟨#[108, 97, 115, 116, 45, 109, 111, 100, 105, 102, 105, 101, 100]⟩ : ByteArray) = bs sLmod := rfl
  have e4 : (⟨#[105, 102, 45, 109, 111, 100, 105, 102, 105, 101, 100, 45, 115, 105, 110, 99, 101]⟩ : ByteArray) = bs sIms := rfl
  have a1 : ∀ (l : List Fl) b o nm, alB ⟨gC enF l, b, o⟩ (bs nm) = (allL l nm).length := fun l b o nm => by unfold alB; simp only; rw [decF_gC, L_bs]
  have a2 : ∀ (l : List Fl) b o nm, alN ⟨gC enF l, b, o⟩ (bs nm) = (allN nm l : Nat) := fun l b o nm => by unfold alN; simp only; rw [decF_gC, L_bs]
  have a3 : ∀ (l : List Fl) b o nm, alV ⟨gC enF l, b, o⟩ (bs nm) = bs (allL l nm) := fun l b o nm => by unfold alV; simp only; rw [decF_gC, L_bs]
  have a4 : ∀ (l : List Fl) b o nm, onS ⟨gC enF l, b, o⟩ (bs nm) = bs (onL nm l) := fun l b o nm => by unfold onS; simp only; rw [decF_gC, L_bs]
  have a5 : ∀ (l : List Fl) b o nm, onR ⟨gC enF l, b, o⟩ (bs nm) = onB nm l := fun l b o nm => by unfold onR; simp only; rw [decF_gC, L_bs]
  simp only [e1, e2, e3, e4, a1, a2, a3, a4, a5, elN_bs, elC_bs, L_bse, strEq_bs]
  have z1 := b2 sEtag
  have z2 := b3 sInm
  have z3 := b2 sLmod
  have z4 := b3 sIms
  obtain ⟨s1, s2⟩ := split_len (allL q sInm)
  refine ⟨⟨by omega, isF_mk _ _ rfl, by omega, by omega⟩, ⟨by omega, isF_mk _ _ rfl, by omega, by omega⟩, br_intro (fun k => ⟨⟨by omega, isF_mk _ _ rfl, by omega, by omega⟩, ⟨by omega, isF_mk _ _ rfl, by omega, by omega⟩, ?_⟩) (fun k => ⟨⟨sPl _, by omega⟩, ?_⟩)⟩
  · have k : allN sInm q = 0 := by
      have k : ((allN sInm q : Nat) : Int) = 0 := by simpa using k
      omega
    unfold samL; rw [if_pos k]
    refine br_intro (fun c1 => br_intro (fun c2 => ?_) (fun c2 => ?_)) (fun c1 => ?_)
    · rw [c1, c2]; simp
    · rw [c1, c2]; rfl
    · rw [c1]; rfl
  · have k : ¬ allN sInm q = 0 := by
      have k : ¬ ((allN sInm q : Nat) : Int) = 0 := by simpa using k
      omega
    have hsam : samL e q = (elSp (allL q sInm)).any (tagOk (onB sEtag e) (onL sEtag e)) := by unfold samL; rw [if_neg k]
    have hol : (onL sEtag e).length ≤ maxLen := by
      unfold onL; split
      · omega
      · exact Nat.zero_le _
    rw [hsam]
    exact ⟨⟨d, e, q, onL sEtag e, onB sEtag e, elSp (allL q sInm)⟩, ⟨by simp only; unfold elSp; omega, by simp only; omega, fun x hx => by have := s1 x hx; omega⟩, rfl, rfl, rfl, rfl, rfl, rfl, rfl, rfl, br_side (fun _ h => ⟨h, rfl, rfl, rfl⟩) (fun _ h => ⟨h, rfl, rfl, rfl⟩)⟩
end Go.Proofs.Ythkidlkcjohppaa.tk
