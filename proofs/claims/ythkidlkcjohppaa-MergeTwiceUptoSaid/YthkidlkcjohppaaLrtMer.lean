/- The document's own merging of an entry with the response to its validation. -/
import Derived.Test.YthkidlkcjohppaaSz9
import Derived.Test.YthkidlkcjohppaaRows
import Derived.Test.YthkidlkcjohppaaLmgRen
import Derived.Test.YthkidlkcjohppaaLrtAll
set_option linter.unusedSimpArgs false
set_option linter.unusedVariables false
namespace Go.Proofs.Ythkidlkcjohppaa.tk
open Go Go.Ev Go.Sy Go.RowKit Go.Proofs.Ythkidlkcjohppaa.gl
def cRe : FuncId → List Value → List Row → Option (Prop × Value × List Row)
  | 27, [.slice (some ⟨0, 0, none⟩) n 2, .string s], [r0] => some (IsF r0 n ∧ n ≤ maxLen ∧ alB r0 s ≤ 16777216, .tuple #[.string (alV r0 s), .int .i64 (alN r0 s)], [])
  | 39, [.string s], [] => some (True, .bool (cntS s), [])
  | _, _, _ => none
noncomputable abbrev ERe : Env := envC Try.prog cRe (fun f => Nat.beq f 27 || Nat.beq f 39)
def mer1 (e s : List Fl) : List Fl := e.filter fun f => cntL f.n || decide (allN f.n s = 0)
def noAge (l : List Fl) : List Fl := l.filter fun f => !decide (f.n = sAge)
def merL (e s : List Fl) : List Fl := if allN sAge s = 0 then noAge (mer1 e s ++ ren2 s) else mer1 e s ++ ren2 s
structure GRe where
  d : List Fl
  e : List Fl
  s : List Fl
  x : EnY
  st : Int
  k : Int
  asked : Int
  came : Int
  acc : List Fl
def pRe1 : List Nat := [0, 1, 0, 1, 1]
def pRe2 : List Nat := [0, 1, 0, 1, 1, 1]
def pRe3 : List Nat := [0, 1, 0, 1, 0, 1, 0, 1, 1, 1, 1]
def sbR (g : GRe) : List (Nat × Value) := [(2, .int .i64 g.asked), (3, .int .i64 g.came), (4, .pointer (some ⟨3, 0, none⟩)), (5, .pointer (some ⟨4, 0, none⟩)), (8, .pointer (some ⟨5, 0, none⟩))]
def slE0 (g : GRe) (a : List Fl) : List (Nat × Value) := sbR g ++ [(9, .slice (some ⟨6, 0, none⟩) a.length 2)]
def slE1 (g : GRe) (s : StRn) : List (Nat × Value) := sbR g ++ [(9, .slice (some ⟨6, 0, none⟩) s.acc.length 2), (10, .int .i64 (s.i : Nat))]
def slE2 (g : GRe) (s : StRn) : List (Nat × Value) := sbR g ++ [(9, .slice (some ⟨6, 0, none⟩) s.acc.length 2), (12, .int .i64 (s.i : Nat))]
def rlE (g : GRe) (a : List Fl) : List (Nat × Row) := [(0, gRo enF g.d), (1, gRo enF g.e), (2, gRo enF g.s), (3, ⟨enCy g.x 0 g.d.length 1 g.e.length, false, .cells false⟩), (4, ⟨rsCy g.st 2 g.s.length g.k, false, .cells false⟩), (5, ⟨zEn, false, .cells false⟩), (6, gOwn enF a)]
def wsE1 (g : GRe) : List (Gate (List Fl)) := [⟨.exit 0, fun a => a = mer1 g.e g.s, fun a => slE0 g a, fun a => rlE g a, 7⟩]
def wsE2 (g : GRe) : List (Gate (List Fl)) := [⟨.exit 2, fun a => a = g.acc ++ ren2 g.s, fun a => slE0 g a, fun a => rlE g a, 7⟩]
def specE1 : Sy.Spec := specOf 3 7 99 (fun g : GRe => g.e.length ≤ 16777000 ∧ g.s.length ≤ maxLen ∧ BigW g.s) (fun g => slE1 g ⟨0, []⟩) (fun g => rlE g []) wsE1
def specE2 : Sy.Spec := specOf 3 7 99 (fun g : GRe => g.acc.length + g.s.length ≤ 16777000) (fun g => slE2 g ⟨0, g.acc⟩) (fun g => rlE g g.acc) wsE2
def sb3 (g : GRe) : List (Nat × Value) := [(2, .int .i64 g.asked), (3, .int .i64 g.came), (4, .pointer (some ⟨3, 0, none⟩)), (8, .pointer (some ⟨4, 0, none⟩))]
def slE3 (g : GRe) (s : StRn) : List (Nat × Value) := sb3 g ++ [(9, .slice (some ⟨5, 0, none⟩) g.acc.length 2), (13, .slice (some ⟨6, 0, none⟩) s.acc.length 2), (14, .int .i64 (s.i : Nat))]
def rlE3 (g : GRe) (s : StRn) : List (Nat × Row) := [(0, gRo enF g.d), (1, gRo enF g.e), (2, gRo enF g.s), (3, ⟨enCy g.x 0 g.d.length 1 g.e.length, false, .cells false⟩), (4, ⟨zEn, false, .cells false⟩), (5, gOwn enF g.acc), (6, gOwn enF s.acc)]
def wsE3 (g : GRe) : List (Gate (List Fl)) := [⟨.exit 4, fun a => a = noAge g.acc, fun a => sb3 g ++ [(13, .slice (some ⟨5, 0, none⟩) a.length 2)], fun a => [(0, gRo enF g.d), (1, gRo enF g.e), (2, gRo enF g.s), (3, ⟨enCy g.x 0 g.d.length 1 g.e.length, false, .cells false⟩), (4, ⟨zEn, false, .cells false⟩), (5, gOwn enF a)], 6⟩]
def specE3 : Sy.Spec := specOf 3 7 99 (fun g : GRe => g.acc.length ≤ 16777000) (fun g => slE3 g ⟨0, []⟩) (fun g => rlE3 g ⟨0, []⟩) wsE3
def mRe := mOf [(21, pRe1, specE1), (21, pRe2, specE2), (21, pRe3, specE3)]
theorem kp_vc (s : List UInt8) (b : Bool) : mcall E0 noM 60 39 [.string (bs s)] ⟨mkR (nums 0 []), 0⟩ (retIs 0 (.bool b) []) =
  (br (strEq (bs s) (ByteArray.mk #[(99 : UInt8), (111 : UInt8), (110 : UInt8), (116 : UInt8), (101 : UInt8), (110 : UInt8), (116 : UInt8), (45 : UInt8), (108 : UInt8), (101 : UInt8), (110 : UInt8), (103 : UInt8), (116 : UInt8), (104 : UInt8)]))
   ((b = true) ∧
   True)
   (br (strEq (bs s) (ByteArray.mk #[(99 : UInt8), (111 : UInt8), (110 : UInt8), (116 : UInt8), (101 : UInt8), (110 : UInt8), (116 : UInt8), (45 : UInt8), (101 : UInt8), (110 : UInt8), (99 : UInt8), (111 : UInt8), (100 : UInt8), (105 : UInt8), (110 : UInt8), (103 : UInt8)]))
    ((b = true) ∧
    True)
    (br (strEq (bs s) (ByteArray.mk #[(99 : UInt8), (111 : UInt8), (110 : UInt8), (116 : UInt8), (101 : UInt8), (110 : UInt8), (116 : UInt8), (45 : UInt8), (116 : UInt8), (121 : UInt8), (112 : UInt8), (101 : UInt8)]))
     ((b = true) ∧
     True)
     (br (strEq (bs s) (ByteArray.mk #[(99 : UInt8), (111 : UInt8), (110 : UInt8), (116 : UInt8), (101 : UInt8), (110 : UInt8), (116 : UInt8), (45 : UInt8), (114 : UInt8), (97 : UInt8), (110 : UInt8), (103 : UInt8), (101 : UInt8)]))
      ((b = true) ∧
      True)
      ((b = false) ∧
      True))))) := by kernel_rfl
theorem E1_round (g : GRe) (s : StRn) (Inv : StRn → Prop) (m : StRn → Nat) : mev ERe noM 60 21 (0 :: pRe1) false (codeOf Try.prog 21 (0 :: pRe1)) ⟨mkOv (slE1 g s), 99, []⟩ none ⟨mkR (rlE g s.acc), 7⟩ (roundK 3 7 99 Inv m (slE1 g) (fun s => rlE g s.acc) (wsE1 g) s) =
  (br (decide ((↑s.1 : Int) < Int.ofNat (List.length g.2)))
   (br (decide ((0 : Int) ≤ (↑s.1 : Int) ∧ (↑s.1 : Int) < (↑(List.length g.2) : Int)))
    ((Eq (α := Option Value) ((gC enF g.2)[(0 : Nat) + Int.toNat (↑s.1 : Int) * (2 : Nat)]?) (some (Value.string (cellS (gC enF g.2) ((0 : Nat) + Int.toNat (↑s.1 : Int) * (2 : Nat)))))) ∧
    ((Eq (α := Option Value) ((gC enF g.2)[(0 : Nat) + Int.toNat (↑s.1 : Int) * (2 : Nat) + (1 : Nat)]?) (some (Value.string (cellS (gC enF g.2) ((0 : Nat) + Int.toNat (↑s.1 : Int) * (2 : Nat) + (1 : Nat)))))) ∧
    ((((True ∧ True) ∧ (True ∧ True))) ∧
    (br (cntS (cellS (gC enF g.2) ((0 : Nat) + Int.toNat (↑s.1 : Int) * (2 : Nat))))
     (br (decide (List.length s.2 + (1 : Nat) ≤ (16777216 : Nat)))
      (br (decide ((0 : Nat) + List.length s.2 * (2 : Nat) ≤ List.length (gC enF s.2)))
       (∃ j : StRn, ((Inv j) ∧
       ((m j < m s) ∧
       ((g.7 = g.7) ∧
       ((g.8 = g.8) ∧
       (((0 : Nat) = (0 : Nat)) ∧
       (((0 : Nat) = (0 : Nat)) ∧
       (((0 : Nat) = (0 : Nat)) ∧
       (((0 : Nat) = (0 : Nat)) ∧
       ((List.length j.2 = List.length s.2 + (1 : Nat)) ∧
       (((↑j.1 : Int) = IntKind.wrap IntKind.i64 ((↑s.1 : Int) + (1 : Int))) ∧
       ((Eq (α := List Value) (gC enF g.1) (gC enF g.1)) ∧
       ((Plain (gC enF g.1)) ∧
       ((Eq (α := List Value) (gC enF g.2) (gC enF g.2)) ∧
       ((Plain (gC enF g.2)) ∧
       ((Eq (α := List Value) (gC enF g.3) (gC enF g.3)) ∧
       ((Plain (gC enF g.3)) ∧
       ((g.4.1 = g.4.1) ∧
       ((g.4.2 = g.4.2) ∧
       ((g.4.3 = g.4.3) ∧
       ((g.4.4 = g.4.4) ∧
       (((0 : Nat) = (0 : Nat)) ∧
       ((List.length g.1 = List.length g.1) ∧
       ((g.4.5 = g.4.5) ∧
       ((g.4.6 = g.4.6) ∧
       (((0 : Nat) = (0 : Nat)) ∧
       ((List.length g.2 = List.length g.2) ∧
       ((g.4.7 = g.4.7) ∧
       ((g.4.8 = g.4.8) ∧
       ((g.4.9 = g.4.9) ∧
       ((g.4.10 = g.4.10) ∧
       ((g.5 = g.5) ∧
       (((0 : Nat) = (0 : Nat)) ∧
       ((List.length g.3 = List.length g.3) ∧
       ((g.6 = g.6) ∧
       ((ByteArray.mk #[] = ByteArray.mk #[]) ∧
       ((ByteArray.mk #[] = ByteArray.mk #[]) ∧
       ((ByteArray.mk #[] = ByteArray.mk #[]) ∧
       ((ByteArray.mk #[] = ByteArray.mk #[]) ∧
       (((0 : Int) = (0 : Int)) ∧
       (((0 : Int) = (0 : Int)) ∧
       (((0 : Int) = (0 : Int)) ∧
       ((ByteArray.mk #[] = ByteArray.mk #[]) ∧
       (((0 : Int) = (0 : Int)) ∧
       (((0 : Int) = (0 : Int)) ∧
       ((Eq (α := List Value) (gC enF j.2) (List.take (List.length s.2 * (2 : Nat)) (List.drop (0 : Nat) (gC enF s.2)) ++ [Value.string (cellS (gC enF g.2) ((0 : Nat) + Int.toNat (↑s.1 : Int) * (2 : Nat))), Value.string (cellS (gC enF g.2) ((0 : Nat) + Int.toNat (↑s.1 : Int) * (2 : Nat) + (1 : Nat)))])) ∧
       ((Plain (gC enF j.2)) ∧
       True)))))))))))))))))))))))))))))))))))))))))))))))
       False)
      False)
     ((((((0 : Nat) + List.length g.3 * (2 : Nat) ≤ List.length (gC enF g.3) ∧ Plain (List.take (List.length g.3 * (2 : Nat)) (List.drop (0 : Nat) (gC enF g.3)))) ∧ (True ∧ True)) ∧ (True ∧ (IsF (Row.mk (List.take (List.length g.3 * (2 : Nat)) (List.drop (0 : Nat) (gC enF g.3))) true (Ob.cells true)) (List.length g.3) ∧ (List.length g.3 ≤ (9223372036854775807 : Nat) ∧ alB (Row.mk (List.take (List.length g.3 * (2 : Nat)) (List.drop (0 : Nat) (gC enF g.3))) true (Ob.cells true)) (cellS (gC enF g.2) ((0 : Nat) + Int.toNat (↑s.1 : Int) * (2 : Nat))) ≤ (16777216 : Nat)))))) ∧
     (br (!decide (alN (Row.mk (List.take (List.length g.3 * (2 : Nat)) (List.drop (0 : Nat) (gC enF g.3))) true (Ob.cells true)) (cellS (gC enF g.2) ((0 : Nat) + Int.toNat (↑s.1 : Int) * (2 : Nat))) > (0 : Int)))
      (br (decide (List.length s.2 + (1 : Nat) ≤ (16777216 : Nat)))
       (br (decide ((0 : Nat) + List.length s.2 * (2 : Nat) ≤ List.length (gC enF s.2)))
        (∃ j : StRn, ((Inv j) ∧
        ((m j < m s) ∧
        ((g.7 = g.7) ∧
        ((g.8 = g.8) ∧
        (((0 : Nat) = (0 : Nat)) ∧
        (((0 : Nat) = (0 : Nat)) ∧
        (((0 : Nat) = (0 : Nat)) ∧
        (((0 : Nat) = (0 : Nat)) ∧
        ((List.length j.2 = List.length s.2 + (1 : Nat)) ∧
        (((↑j.1 : Int) = IntKind.wrap IntKind.i64 ((↑s.1 : Int) + (1 : Int))) ∧
        ((Eq (α := List Value) (gC enF g.1) (gC enF g.1)) ∧
        ((Plain (gC enF g.1)) ∧
        ((Eq (α := List Value) (gC enF g.2) (gC enF g.2)) ∧
        ((Plain (gC enF g.2)) ∧
        ((Eq (α := List Value) (gC enF g.3) (gC enF g.3)) ∧
        ((Plain (gC enF g.3)) ∧
        ((g.4.1 = g.4.1) ∧
        ((g.4.2 = g.4.2) ∧
        ((g.4.3 = g.4.3) ∧
        ((g.4.4 = g.4.4) ∧
        (((0 : Nat) = (0 : Nat)) ∧
        ((List.length g.1 = List.length g.1) ∧
        ((g.4.5 = g.4.5) ∧
        ((g.4.6 = g.4.6) ∧
        (((0 : Nat) = (0 : Nat)) ∧
        ((List.length g.2 = List.length g.2) ∧
        ((g.4.7 = g.4.7) ∧
        ((g.4.8 = g.4.8) ∧
        ((g.4.9 = g.4.9) ∧
        ((g.4.10 = g.4.10) ∧
        ((g.5 = g.5) ∧
        (((0 : Nat) = (0 : Nat)) ∧
        ((List.length g.3 = List.length g.3) ∧
        ((g.6 = g.6) ∧
        ((ByteArray.mk #[] = ByteArray.mk #[]) ∧
        ((ByteArray.mk #[] = ByteArray.mk #[]) ∧
        ((ByteArray.mk #[] = ByteArray.mk #[]) ∧
        ((ByteArray.mk #[] = ByteArray.mk #[]) ∧
        (((0 : Int) = (0 : Int)) ∧
        (((0 : Int) = (0 : Int)) ∧
        (((0 : Int) = (0 : Int)) ∧
        ((ByteArray.mk #[] = ByteArray.mk #[]) ∧
        (((0 : Int) = (0 : Int)) ∧
        (((0 : Int) = (0 : Int)) ∧
        ((Eq (α := List Value) (gC enF j.2) (List.take (List.length s.2 * (2 : Nat)) (List.drop (0 : Nat) (gC enF s.2)) ++ [Value.string (cellS (gC enF g.2) ((0 : Nat) + Int.toNat (↑s.1 : Int) * (2 : Nat))), Value.string (cellS (gC enF g.2) ((0 : Nat) + Int.toNat (↑s.1 : Int) * (2 : Nat) + (1 : Nat)))])) ∧
        ((Plain (gC enF j.2)) ∧
        True)))))))))))))))))))))))))))))))))))))))))))))))
        False)
       False)
      (∃ j : StRn, ((Inv j) ∧
      ((m j < m s) ∧
      ((g.7 = g.7) ∧
      ((g.8 = g.8) ∧
      (((0 : Nat) = (0 : Nat)) ∧
      (((0 : Nat) = (0 : Nat)) ∧
      (((0 : Nat) = (0 : Nat)) ∧
      (((0 : Nat) = (0 : Nat)) ∧
      ((List.length j.2 = List.length s.2) ∧
      (((↑j.1 : Int) = IntKind.wrap IntKind.i64 ((↑s.1 : Int) + (1 : Int))) ∧
      ((Eq (α := List Value) (gC enF g.1) (gC enF g.1)) ∧
      ((Plain (gC enF g.1)) ∧
      ((Eq (α := List Value) (gC enF g.2) (gC enF g.2)) ∧
      ((Plain (gC enF g.2)) ∧
      ((Eq (α := List Value) (gC enF g.3) (gC enF g.3)) ∧
      ((Plain (gC enF g.3)) ∧
      ((g.4.1 = g.4.1) ∧
      ((g.4.2 = g.4.2) ∧
      ((g.4.3 = g.4.3) ∧
      ((g.4.4 = g.4.4) ∧
      (((0 : Nat) = (0 : Nat)) ∧
      ((List.length g.1 = List.length g.1) ∧
      ((g.4.5 = g.4.5) ∧
      ((g.4.6 = g.4.6) ∧
      (((0 : Nat) = (0 : Nat)) ∧
      ((List.length g.2 = List.length g.2) ∧
      ((g.4.7 = g.4.7) ∧
      ((g.4.8 = g.4.8) ∧
      ((g.4.9 = g.4.9) ∧
      ((g.4.10 = g.4.10) ∧
      ((g.5 = g.5) ∧
      (((0 : Nat) = (0 : Nat)) ∧
      ((List.length g.3 = List.length g.3) ∧
      ((g.6 = g.6) ∧
      ((ByteArray.mk #[] = ByteArray.mk #[]) ∧
      ((ByteArray.mk #[] = ByteArray.mk #[]) ∧
      ((ByteArray.mk #[] = ByteArray.mk #[]) ∧
      ((ByteArray.mk #[] = ByteArray.mk #[]) ∧
      (((0 : Int) = (0 : Int)) ∧
      (((0 : Int) = (0 : Int)) ∧
      (((0 : Int) = (0 : Int)) ∧
      ((ByteArray.mk #[] = ByteArray.mk #[]) ∧
      (((0 : Int) = (0 : Int)) ∧
      (((0 : Int) = (0 : Int)) ∧
      ((Eq (α := List Value) (gC enF j.2) (gC enF s.2)) ∧
      ((Plain (gC enF j.2)) ∧
      True)))))))))))))))))))))))))))))))))))))))))))))))))))))
    False)
   (∃ y : List Fl, ((Eq (α := List Fl) (y) (mer1 g.2 g.3)) ∧
   ((g.7 = g.7) ∧
   ((g.8 = g.8) ∧
   (((0 : Nat) = (0 : Nat)) ∧
   (((0 : Nat) = (0 : Nat)) ∧
   (((0 : Nat) = (0 : Nat)) ∧
   (((0 : Nat) = (0 : Nat)) ∧
   ((List.length y = List.length s.2) ∧
   ((Eq (α := List Value) (gC enF g.1) (gC enF g.1)) ∧
   ((Plain (gC enF g.1)) ∧
   ((Eq (α := List Value) (gC enF g.2) (gC enF g.2)) ∧
   ((Plain (gC enF g.2)) ∧
   ((Eq (α := List Value) (gC enF g.3) (gC enF g.3)) ∧
   ((Plain (gC enF g.3)) ∧
   ((g.4.1 = g.4.1) ∧
   ((g.4.2 = g.4.2) ∧
   ((g.4.3 = g.4.3) ∧
   ((g.4.4 = g.4.4) ∧
   (((0 : Nat) = (0 : Nat)) ∧
   ((List.length g.1 = List.length g.1) ∧
   ((g.4.5 = g.4.5) ∧
   ((g.4.6 = g.4.6) ∧
   (((0 : Nat) = (0 : Nat)) ∧
   ((List.length g.2 = List.length g.2) ∧
   ((g.4.7 = g.4.7) ∧
   ((g.4.8 = g.4.8) ∧
   ((g.4.9 = g.4.9) ∧
   ((g.4.10 = g.4.10) ∧
   ((g.5 = g.5) ∧
   (((0 : Nat) = (0 : Nat)) ∧
   ((List.length g.3 = List.length g.3) ∧
   ((g.6 = g.6) ∧
   ((ByteArray.mk #[] = ByteArray.mk #[]) ∧
   ((ByteArray.mk #[] = ByteArray.mk #[]) ∧
   ((ByteArray.mk #[] = ByteArray.mk #[]) ∧
   ((ByteArray.mk #[] = ByteArray.mk #[]) ∧
   (((0 : Int) = (0 : Int)) ∧
   (((0 : Int) = (0 : Int)) ∧
   (((0 : Int) = (0 : Int)) ∧
   ((ByteArray.mk #[] = ByteArray.mk #[]) ∧
   (((0 : Int) = (0 : Int)) ∧
   (((0 : Int) = (0 : Int)) ∧
   ((Eq (α := List Value) (gC enF y) (gC enF s.2)) ∧
   ((Plain (gC enF y)) ∧
   True)))))))))))))))))))))))))))))))))))))))))))))) := by kernel_rfl
theorem E2_round (g : GRe) (s : StRn) (Inv : StRn → Prop) (m : StRn → Nat) : mev ERe noM 60 21 (0 :: pRe2) false (codeOf Try.prog 21 (0 :: pRe2)) ⟨mkOv (slE2 g s), 99, []⟩ none ⟨mkR (rlE g s.acc), 7⟩ (roundK 3 7 99 Inv m (slE2 g) (fun s => rlE g s.acc) (wsE2 g) s) =
  (br (decide ((↑s.1 : Int) < Int.ofNat (List.length g.3)))
   (br (decide ((0 : Int) ≤ (↑s.1 : Int) ∧ (↑s.1 : Int) < (↑(List.length g.3) : Int)))
    ((Eq (α := Option Value) ((gC enF g.3)[(0 : Nat) + Int.toNat (↑s.1 : Int) * (2 : Nat) + (0 : Nat)]?) (some (Value.string (cellS (gC enF g.3) ((0 : Nat) + Int.toNat (↑s.1 : Int) * (2 : Nat) + (0 : Nat)))))) ∧
    ((((True ∧ True) ∧ (True ∧ True))) ∧
    (br (!cntS (cellS (gC enF g.3) ((0 : Nat) + Int.toNat (↑s.1 : Int) * (2 : Nat) + (0 : Nat))))
     (br (decide ((0 : Int) ≤ (↑s.1 : Int) ∧ (↑s.1 : Int) < (↑(List.length g.3) : Int)))
      ((Eq (α := Option Value) ((gC enF g.3)[(0 : Nat) + Int.toNat (↑s.1 : Int) * (2 : Nat)]?) (some (Value.string (cellS (gC enF g.3) ((0 : Nat) + Int.toNat (↑s.1 : Int) * (2 : Nat)))))) ∧
      ((Eq (α := Option Value) ((gC enF g.3)[(0 : Nat) + Int.toNat (↑s.1 : Int) * (2 : Nat) + (1 : Nat)]?) (some (Value.string (cellS (gC enF g.3) ((0 : Nat) + Int.toNat (↑s.1 : Int) * (2 : Nat) + (1 : Nat)))))) ∧
      (br (decide (List.length s.2 + (1 : Nat) ≤ (16777216 : Nat)))
       (br (decide ((0 : Nat) + List.length s.2 * (2 : Nat) ≤ List.length (gC enF s.2)))
        (∃ j : StRn, ((Inv j) ∧
        ((m j < m s) ∧
        ((g.7 = g.7) ∧
        ((g.8 = g.8) ∧
        (((0 : Nat) = (0 : Nat)) ∧
        (((0 : Nat) = (0 : Nat)) ∧
        (((0 : Nat) = (0 : Nat)) ∧
        (((0 : Nat) = (0 : Nat)) ∧
        ((List.length j.2 = List.length s.2 + (1 : Nat)) ∧
        (((↑j.1 : Int) = IntKind.wrap IntKind.i64 ((↑s.1 : Int) + (1 : Int))) ∧
        ((Eq (α := List Value) (gC enF g.1) (gC enF g.1)) ∧
        ((Plain (gC enF g.1)) ∧
        ((Eq (α := List Value) (gC enF g.2) (gC enF g.2)) ∧
        ((Plain (gC enF g.2)) ∧
        ((Eq (α := List Value) (gC enF g.3) (gC enF g.3)) ∧
        ((Plain (gC enF g.3)) ∧
        ((g.4.1 = g.4.1) ∧
        ((g.4.2 = g.4.2) ∧
        ((g.4.3 = g.4.3) ∧
        ((g.4.4 = g.4.4) ∧
        (((0 : Nat) = (0 : Nat)) ∧
        ((List.length g.1 = List.length g.1) ∧
        ((g.4.5 = g.4.5) ∧
        ((g.4.6 = g.4.6) ∧
        (((0 : Nat) = (0 : Nat)) ∧
        ((List.length g.2 = List.length g.2) ∧
        ((g.4.7 = g.4.7) ∧
        ((g.4.8 = g.4.8) ∧
        ((g.4.9 = g.4.9) ∧
        ((g.4.10 = g.4.10) ∧
        ((g.5 = g.5) ∧
        (((0 : Nat) = (0 : Nat)) ∧
        ((List.length g.3 = List.length g.3) ∧
        ((g.6 = g.6) ∧
        ((ByteArray.mk #[] = ByteArray.mk #[]) ∧
        ((ByteArray.mk #[] = ByteArray.mk #[]) ∧
        ((ByteArray.mk #[] = ByteArray.mk #[]) ∧
        ((ByteArray.mk #[] = ByteArray.mk #[]) ∧
        (((0 : Int) = (0 : Int)) ∧
        (((0 : Int) = (0 : Int)) ∧
        (((0 : Int) = (0 : Int)) ∧
        ((ByteArray.mk #[] = ByteArray.mk #[]) ∧
        (((0 : Int) = (0 : Int)) ∧
        (((0 : Int) = (0 : Int)) ∧
        ((Eq (α := List Value) (gC enF j.2) (List.take (List.length s.2 * (2 : Nat)) (List.drop (0 : Nat) (gC enF s.2)) ++ [Value.string (cellS (gC enF g.3) ((0 : Nat) + Int.toNat (↑s.1 : Int) * (2 : Nat))), Value.string (cellS (gC enF g.3) ((0 : Nat) + Int.toNat (↑s.1 : Int) * (2 : Nat) + (1 : Nat)))])) ∧
        ((Plain (gC enF j.2)) ∧
        True)))))))))))))))))))))))))))))))))))))))))))))))
        False)
       False)))
      False)
     (∃ j : StRn, ((Inv j) ∧
     ((m j < m s) ∧
     ((g.7 = g.7) ∧
     ((g.8 = g.8) ∧
     (((0 : Nat) = (0 : Nat)) ∧
     (((0 : Nat) = (0 : Nat)) ∧
     (((0 : Nat) = (0 : Nat)) ∧
     (((0 : Nat) = (0 : Nat)) ∧
     ((List.length j.2 = List.length s.2) ∧
     (((↑j.1 : Int) = IntKind.wrap IntKind.i64 ((↑s.1 : Int) + (1 : Int))) ∧
     ((Eq (α := List Value) (gC enF g.1) (gC enF g.1)) ∧
     ((Plain (gC enF g.1)) ∧
     ((Eq (α := List Value) (gC enF g.2) (gC enF g.2)) ∧
     ((Plain (gC enF g.2)) ∧
     ((Eq (α := List Value) (gC enF g.3) (gC enF g.3)) ∧
     ((Plain (gC enF g.3)) ∧
     ((g.4.1 = g.4.1) ∧
     ((g.4.2 = g.4.2) ∧
     ((g.4.3 = g.4.3) ∧
     ((g.4.4 = g.4.4) ∧
     (((0 : Nat) = (0 : Nat)) ∧
     ((List.length g.1 = List.length g.1) ∧
     ((g.4.5 = g.4.5) ∧
     ((g.4.6 = g.4.6) ∧
     (((0 : Nat) = (0 : Nat)) ∧
     ((List.length g.2 = List.length g.2) ∧
     ((g.4.7 = g.4.7) ∧
     ((g.4.8 = g.4.8) ∧
     ((g.4.9 = g.4.9) ∧
     ((g.4.10 = g.4.10) ∧
     ((g.5 = g.5) ∧
     (((0 : Nat) = (0 : Nat)) ∧
     ((List.length g.3 = List.length g.3) ∧
     ((g.6 = g.6) ∧
     ((ByteArray.mk #[] = ByteArray.mk #[]) ∧
     ((ByteArray.mk #[] = ByteArray.mk #[]) ∧
     ((ByteArray.mk #[] = ByteArray.mk #[]) ∧
     ((ByteArray.mk #[] = ByteArray.mk #[]) ∧
     (((0 : Int) = (0 : Int)) ∧
     (((0 : Int) = (0 : Int)) ∧
     (((0 : Int) = (0 : Int)) ∧
     ((ByteArray.mk #[] = ByteArray.mk #[]) ∧
     (((0 : Int) = (0 : Int)) ∧
     (((0 : Int) = (0 : Int)) ∧
     ((Eq (α := List Value) (gC enF j.2) (gC enF s.2)) ∧
     ((Plain (gC enF j.2)) ∧
     True))))))))))))))))))))))))))))))))))))))))))))))))))
    False)
   (∃ y : List Fl, ((Eq (α := List Fl) (y) (g.9 ++ ren2 g.3)) ∧
   ((g.7 = g.7) ∧
   ((g.8 = g.8) ∧
   (((0 : Nat) = (0 : Nat)) ∧
   (((0 : Nat) = (0 : Nat)) ∧
   (((0 : Nat) = (0 : Nat)) ∧
   (((0 : Nat) = (0 : Nat)) ∧
   ((List.length y = List.length s.2) ∧
   ((Eq (α := List Value) (gC enF g.1) (gC enF g.1)) ∧
   ((Plain (gC enF g.1)) ∧
   ((Eq (α := List Value) (gC enF g.2) (gC enF g.2)) ∧
   ((Plain (gC enF g.2)) ∧
   ((Eq (α := List Value) (gC enF g.3) (gC enF g.3)) ∧
   ((Plain (gC enF g.3)) ∧
   ((g.4.1 = g.4.1) ∧
   ((g.4.2 = g.4.2) ∧
   ((g.4.3 = g.4.3) ∧
   ((g.4.4 = g.4.4) ∧
   (((0 : Nat) = (0 : Nat)) ∧
   ((List.length g.1 = List.length g.1) ∧
   ((g.4.5 = g.4.5) ∧
   ((g.4.6 = g.4.6) ∧
   (((0 : Nat) = (0 : Nat)) ∧
   ((List.length g.2 = List.length g.2) ∧
   ((g.4.7 = g.4.7) ∧
   ((g.4.8 = g.4.8) ∧
   ((g.4.9 = g.4.9) ∧
   ((g.4.10 = g.4.10) ∧
   ((g.5 = g.5) ∧
   (((0 : Nat) = (0 : Nat)) ∧
   ((List.length g.3 = List.length g.3) ∧
   ((g.6 = g.6) ∧
   ((ByteArray.mk #[] = ByteArray.mk #[]) ∧
   ((ByteArray.mk #[] = ByteArray.mk #[]) ∧
   ((ByteArray.mk #[] = ByteArray.mk #[]) ∧
   ((ByteArray.mk #[] = ByteArray.mk #[]) ∧
   (((0 : Int) = (0 : Int)) ∧
   (((0 : Int) = (0 : Int)) ∧
   (((0 : Int) = (0 : Int)) ∧
   ((ByteArray.mk #[] = ByteArray.mk #[]) ∧
   (((0 : Int) = (0 : Int)) ∧
   (((0 : Int) = (0 : Int)) ∧
   ((Eq (α := List Value) (gC enF y) (gC enF s.2)) ∧
   ((Plain (gC enF y)) ∧
   True)))))))))))))))))))))))))))))))))))))))))))))) := by kernel_rfl
theorem E3_round (g : GRe) (s : StRn) (Inv : StRn → Prop) (m : StRn → Nat) : mev ERe noM 60 21 (0 :: pRe3) false (codeOf Try.prog 21 (0 :: pRe3)) ⟨mkOv (slE3 g s), 99, []⟩ none ⟨mkR (rlE3 g s), 7⟩ (roundK 3 7 99 Inv m (slE3 g) (rlE3 g) (wsE3 g) s) =
  (br (decide ((↑s.1 : Int) < Int.ofNat (List.length g.9)))
   (br (decide ((0 : Int) ≤ (↑s.1 : Int) ∧ (↑s.1 : Int) < (↑(List.length g.9) : Int)))
    ((Eq (α := Option Value) ((gC enF g.9)[(0 : Nat) + Int.toNat (↑s.1 : Int) * (2 : Nat) + (0 : Nat)]?) (some (Value.string (cellS (gC enF g.9) ((0 : Nat) + Int.toNat (↑s.1 : Int) * (2 : Nat) + (0 : Nat)))))) ∧
    (br (!strEq (cellS (gC enF g.9) ((0 : Nat) + Int.toNat (↑s.1 : Int) * (2 : Nat) + (0 : Nat))) (ByteArray.mk #[(97 : UInt8), (103 : UInt8), (101 : UInt8)]))
     (br (decide ((0 : Int) ≤ (↑s.1 : Int) ∧ (↑s.1 : Int) < (↑(List.length g.9) : Int)))
      ((Eq (α := Option Value) ((gC enF g.9)[(0 : Nat) + Int.toNat (↑s.1 : Int) * (2 : Nat)]?) (some (Value.string (cellS (gC enF g.9) ((0 : Nat) + Int.toNat (↑s.1 : Int) * (2 : Nat)))))) ∧
      ((Eq (α := Option Value) ((gC enF g.9)[(0 : Nat) + Int.toNat (↑s.1 : Int) * (2 : Nat) + (1 : Nat)]?) (some (Value.string (cellS (gC enF g.9) ((0 : Nat) + Int.toNat (↑s.1 : Int) * (2 : Nat) + (1 : Nat)))))) ∧
      (br (decide (List.length s.2 + (1 : Nat) ≤ (16777216 : Nat)))
       (br (decide ((0 : Nat) + List.length s.2 * (2 : Nat) ≤ List.length (gC enF s.2)))
        (∃ j : StRn, ((Inv j) ∧
        ((m j < m s) ∧
        ((g.7 = g.7) ∧
        ((g.8 = g.8) ∧
        (((0 : Nat) = (0 : Nat)) ∧
        (((0 : Nat) = (0 : Nat)) ∧
        (((0 : Nat) = (0 : Nat)) ∧
        ((List.length g.9 = List.length g.9) ∧
        (((0 : Nat) = (0 : Nat)) ∧
        ((List.length j.2 = List.length s.2 + (1 : Nat)) ∧
        (((↑j.1 : Int) = IntKind.wrap IntKind.i64 ((↑s.1 : Int) + (1 : Int))) ∧
        ((Eq (α := List Value) (gC enF g.1) (gC enF g.1)) ∧
        ((Plain (gC enF g.1)) ∧
        ((Eq (α := List Value) (gC enF g.2) (gC enF g.2)) ∧
        ((Plain (gC enF g.2)) ∧
        ((Eq (α := List Value) (gC enF g.3) (gC enF g.3)) ∧
        ((Plain (gC enF g.3)) ∧
        ((g.4.1 = g.4.1) ∧
        ((g.4.2 = g.4.2) ∧
        ((g.4.3 = g.4.3) ∧
        ((g.4.4 = g.4.4) ∧
        (((0 : Nat) = (0 : Nat)) ∧
        ((List.length g.1 = List.length g.1) ∧
        ((g.4.5 = g.4.5) ∧
        ((g.4.6 = g.4.6) ∧
        (((0 : Nat) = (0 : Nat)) ∧
        ((List.length g.2 = List.length g.2) ∧
        ((g.4.7 = g.4.7) ∧
        ((g.4.8 = g.4.8) ∧
        ((g.4.9 = g.4.9) ∧
        ((g.4.10 = g.4.10) ∧
        ((ByteArray.mk #[] = ByteArray.mk #[]) ∧
        ((ByteArray.mk #[] = ByteArray.mk #[]) ∧
        ((ByteArray.mk #[] = ByteArray.mk #[]) ∧
        ((ByteArray.mk #[] = ByteArray.mk #[]) ∧
        (((0 : Int) = (0 : Int)) ∧
        (((0 : Int) = (0 : Int)) ∧
        (((0 : Int) = (0 : Int)) ∧
        ((ByteArray.mk #[] = ByteArray.mk #[]) ∧
        (((0 : Int) = (0 : Int)) ∧
        (((0 : Int) = (0 : Int)) ∧
        ((Eq (α := List Value) (gC enF g.9) (gC enF g.9)) ∧
        ((Plain (gC enF g.9)) ∧
        ((Eq (α := List Value) (gC enF j.2) (List.take (List.length s.2 * (2 : Nat)) (List.drop (0 : Nat) (gC enF s.2)) ++ [Value.string (cellS (gC enF g.9) ((0 : Nat) + Int.toNat (↑s.1 : Int) * (2 : Nat))), Value.string (cellS (gC enF g.9) ((0 : Nat) + Int.toNat (↑s.1 : Int) * (2 : Nat) + (1 : Nat)))])) ∧
        ((Plain (gC enF j.2)) ∧
        True))))))))))))))))))))))))))))))))))))))))))))))
        False)
       False)))
      False)
     (∃ j : StRn, ((Inv j) ∧
     ((m j < m s) ∧
     ((g.7 = g.7) ∧
     ((g.8 = g.8) ∧
     (((0 : Nat) = (0 : Nat)) ∧
     (((0 : Nat) = (0 : Nat)) ∧
     (((0 : Nat) = (0 : Nat)) ∧
     ((List.length g.9 = List.length g.9) ∧
     (((0 : Nat) = (0 : Nat)) ∧
     ((List.length j.2 = List.length s.2) ∧
     (((↑j.1 : Int) = IntKind.wrap IntKind.i64 ((↑s.1 : Int) + (1 : Int))) ∧
     ((Eq (α := List Value) (gC enF g.1) (gC enF g.1)) ∧
     ((Plain (gC enF g.1)) ∧
     ((Eq (α := List Value) (gC enF g.2) (gC enF g.2)) ∧
     ((Plain (gC enF g.2)) ∧
     ((Eq (α := List Value) (gC enF g.3) (gC enF g.3)) ∧
     ((Plain (gC enF g.3)) ∧
     ((g.4.1 = g.4.1) ∧
     ((g.4.2 = g.4.2) ∧
     ((g.4.3 = g.4.3) ∧
     ((g.4.4 = g.4.4) ∧
     (((0 : Nat) = (0 : Nat)) ∧
     ((List.length g.1 = List.length g.1) ∧
     ((g.4.5 = g.4.5) ∧
     ((g.4.6 = g.4.6) ∧
     (((0 : Nat) = (0 : Nat)) ∧
     ((List.length g.2 = List.length g.2) ∧
     ((g.4.7 = g.4.7) ∧
     ((g.4.8 = g.4.8) ∧
     ((g.4.9 = g.4.9) ∧
     ((g.4.10 = g.4.10) ∧
     ((ByteArray.mk #[] = ByteArray.mk #[]) ∧
     ((ByteArray.mk #[] = ByteArray.mk #[]) ∧
     ((ByteArray.mk #[] = ByteArray.mk #[]) ∧
     ((ByteArray.mk #[] = ByteArray.mk #[]) ∧
     (((0 : Int) = (0 : Int)) ∧
     (((0 : Int) = (0 : Int)) ∧
     (((0 : Int) = (0 : Int)) ∧
     ((ByteArray.mk #[] = ByteArray.mk #[]) ∧
     (((0 : Int) = (0 : Int)) ∧
     (((0 : Int) = (0 : Int)) ∧
     ((Eq (α := List Value) (gC enF g.9) (gC enF g.9)) ∧
     ((Plain (gC enF g.9)) ∧
     ((Eq (α := List Value) (gC enF j.2) (gC enF s.2)) ∧
     ((Plain (gC enF j.2)) ∧
     True))))))))))))))))))))))))))))))))))))))))))))))))
    False)
   (∃ y : List Fl, ((Eq (α := List Fl) (y) (noAge g.9)) ∧
   ((g.7 = g.7) ∧
   ((g.8 = g.8) ∧
   (((0 : Nat) = (0 : Nat)) ∧
   (((0 : Nat) = (0 : Nat)) ∧
   (((0 : Nat) = (0 : Nat)) ∧
   ((List.length y = List.length s.2) ∧
   ((Eq (α := List Value) (gC enF g.1) (gC enF g.1)) ∧
   ((Plain (gC enF g.1)) ∧
   ((Eq (α := List Value) (gC enF g.2) (gC enF g.2)) ∧
   ((Plain (gC enF g.2)) ∧
   ((Eq (α := List Value) (gC enF g.3) (gC enF g.3)) ∧
   ((Plain (gC enF g.3)) ∧
   ((g.4.1 = g.4.1) ∧
   ((g.4.2 = g.4.2) ∧
   ((g.4.3 = g.4.3) ∧
   ((g.4.4 = g.4.4) ∧
   (((0 : Nat) = (0 : Nat)) ∧
   ((List.length g.1 = List.length g.1) ∧
   ((g.4.5 = g.4.5) ∧
   ((g.4.6 = g.4.6) ∧
   (((0 : Nat) = (0 : Nat)) ∧
   ((List.length g.2 = List.length g.2) ∧
   ((g.4.7 = g.4.7) ∧
   ((g.4.8 = g.4.8) ∧
   ((g.4.9 = g.4.9) ∧
   ((g.4.10 = g.4.10) ∧
   ((ByteArray.mk #[] = ByteArray.mk #[]) ∧
   ((ByteArray.mk #[] = ByteArray.mk #[]) ∧
   ((ByteArray.mk #[] = ByteArray.mk #[]) ∧
   ((ByteArray.mk #[] = ByteArray.mk #[]) ∧
   (((0 : Int) = (0 : Int)) ∧
   (((0 : Int) = (0 : Int)) ∧
   (((0 : Int) = (0 : Int)) ∧
   ((ByteArray.mk #[] = ByteArray.mk #[]) ∧
   (((0 : Int) = (0 : Int)) ∧
   (((0 : Int) = (0 : Int)) ∧
   ((Eq (α := List Value) (gC enF y) (gC enF s.2)) ∧
   ((Plain (gC enF y)) ∧
   True))))))))))))))))))))))))))))))))))))))))) := by kernel_rfl
theorem Re_vc (x : EnY) (st k asked came : Int) (d e s o : List Fl) : mcall ERe mRe 60 21 [.agg ⟨enCy x 0 d.length 1 e.length⟩, .agg ⟨rsCy st 2 s.length k⟩, .int .i64 asked, .int .i64 came] ⟨mkR (nums 0 [gRo enF d, gRo enF e, gRo enF s]), 3⟩ (retIs 3 (.agg ⟨enCy ⟨x.m, x.s, x.a, x.p, x.k, x.st, x.k2, x.body, asked, came⟩ 0 d.length 3 o.length⟩) [gRo enF d, gRo enF e, gRo enF s, gOwn enF o]) =
  (∃ g : GRe, ((List.length g.2 ≤ (16777000 : Nat) ∧ List.length g.3 ≤ (9223372036854775807 : Nat) ∧ BigW g.3) ∧
  ((g.7 = asked) ∧
  ((g.8 = came) ∧
  (((0 : Nat) = (0 : Nat)) ∧
  (((0 : Nat) = (0 : Nat)) ∧
  (((0 : Nat) = (0 : Nat)) ∧
  (((0 : Nat) = (0 : Nat)) ∧
  (((0 : Int) = (0 : Int)) ∧
  ((Eq (α := List Value) (gC enF g.1) (gC enF d)) ∧
  ((Plain (gC enF g.1)) ∧
  ((Eq (α := List Value) (gC enF g.2) (gC enF e)) ∧
  ((Plain (gC enF g.2)) ∧
  ((Eq (α := List Value) (gC enF g.3) (gC enF s)) ∧
  ((Plain (gC enF g.3)) ∧
  ((g.4.1 = x.1) ∧
  ((g.4.2 = x.2) ∧
  ((g.4.3 = x.3) ∧
  ((g.4.4 = x.4) ∧
  (((0 : Nat) = (0 : Nat)) ∧
  ((List.length g.1 = List.length d) ∧
  ((g.4.5 = x.5) ∧
  ((g.4.6 = x.6) ∧
  (((0 : Nat) = (0 : Nat)) ∧
  ((List.length g.2 = List.length e) ∧
  ((g.4.7 = x.7) ∧
  ((g.4.8 = x.8) ∧
  ((g.4.9 = x.9) ∧
  ((g.4.10 = x.10) ∧
  ((g.5 = st) ∧
  (((0 : Nat) = (0 : Nat)) ∧
  ((List.length g.3 = List.length s) ∧
  ((g.6 = k) ∧
  ((ByteArray.mk #[] = ByteArray.mk #[]) ∧
  ((ByteArray.mk #[] = ByteArray.mk #[]) ∧
  ((ByteArray.mk #[] = ByteArray.mk #[]) ∧
  ((ByteArray.mk #[] = ByteArray.mk #[]) ∧
  (((0 : Int) = (0 : Int)) ∧
  (((0 : Int) = (0 : Int)) ∧
  (((0 : Int) = (0 : Int)) ∧
  ((ByteArray.mk #[] = ByteArray.mk #[]) ∧
  (((0 : Int) = (0 : Int)) ∧
  (((0 : Int) = (0 : Int)) ∧
  ((Eq (α := List Value) ([]) ([])) ∧
  (∀ (y : List Fl), ((y = mer1 g.2 g.3) →
  (∃ g2 : GRe, ((List.length g2.9 + List.length g2.3 ≤ (16777000 : Nat)) ∧
  ((g2.7 = g.7) ∧
  ((g2.8 = g.8) ∧
  (((0 : Nat) = (0 : Nat)) ∧
  (((0 : Nat) = (0 : Nat)) ∧
  (((0 : Nat) = (0 : Nat)) ∧
  (((0 : Nat) = (0 : Nat)) ∧
  ((List.length g2.9 = List.length y) ∧
  (((↑(0 : Nat) : Int) = (0 : Int)) ∧
  ((Eq (α := List Value) (gC enF g2.1) (gC enF g.1)) ∧
  ((Plain (gC enF g2.1)) ∧
  ((Eq (α := List Value) (gC enF g2.2) (gC enF g.2)) ∧
  ((Plain (gC enF g2.2)) ∧
  ((Eq (α := List Value) (gC enF g2.3) (gC enF g.3)) ∧
  ((Plain (gC enF g2.3)) ∧
  ((g2.4.1 = g.4.1) ∧
  ((g2.4.2 = g.4.2) ∧
  ((g2.4.3 = g.4.3) ∧
  ((g2.4.4 = g.4.4) ∧
  (((0 : Nat) = (0 : Nat)) ∧
  ((List.length g2.1 = List.length g.1) ∧
  ((g2.4.5 = g.4.5) ∧
  ((g2.4.6 = g.4.6) ∧
  (((0 : Nat) = (0 : Nat)) ∧
  ((List.length g2.2 = List.length g.2) ∧
  ((g2.4.7 = g.4.7) ∧
  ((g2.4.8 = g.4.8) ∧
  ((g2.4.9 = g.4.9) ∧
  ((g2.4.10 = g.4.10) ∧
  ((g2.5 = g.5) ∧
  (((0 : Nat) = (0 : Nat)) ∧
  ((List.length g2.3 = List.length g.3) ∧
  ((g2.6 = g.6) ∧
  ((ByteArray.mk #[] = ByteArray.mk #[]) ∧
  ((ByteArray.mk #[] = ByteArray.mk #[]) ∧
  ((ByteArray.mk #[] = ByteArray.mk #[]) ∧
  ((ByteArray.mk #[] = ByteArray.mk #[]) ∧
  (((0 : Int) = (0 : Int)) ∧
  (((0 : Int) = (0 : Int)) ∧
  (((0 : Int) = (0 : Int)) ∧
  ((ByteArray.mk #[] = ByteArray.mk #[]) ∧
  (((0 : Int) = (0 : Int)) ∧
  (((0 : Int) = (0 : Int)) ∧
  ((Eq (α := List Value) (gC enF g2.9) (gC enF y)) ∧
  ((Plain (gC enF g2.9)) ∧
  (∀ (y2 : List Fl), ((y2 = g2.9 ++ ren2 g2.3) →
  ((((((0 : Nat) + List.length g2.3 * (2 : Nat) ≤ List.length (gC enF g2.3) ∧ Plain (List.take (List.length g2.3 * (2 : Nat)) (List.drop (0 : Nat) (gC enF g2.3)))) ∧ (True ∧ True)) ∧ (True ∧ (IsF (Row.mk (List.take (List.length g2.3 * (2 : Nat)) (List.drop (0 : Nat) (gC enF g2.3))) true (Ob.cells true)) (List.length g2.3) ∧ (List.length g2.3 ≤ (9223372036854775807 : Nat) ∧ alB (Row.mk (List.take (List.length g2.3 * (2 : Nat)) (List.drop (0 : Nat) (gC enF g2.3))) true (Ob.cells true)) (ByteArray.mk #[(97 : UInt8), (103 : UInt8), (101 : UInt8)]) ≤ (16777216 : Nat)))))) ∧
  (br (!decide (alN (Row.mk (List.take (List.length g2.3 * (2 : Nat)) (List.drop (0 : Nat) (gC enF g2.3))) true (Ob.cells true)) (ByteArray.mk #[(97 : UInt8), (103 : UInt8), (101 : UInt8)]) > (0 : Int)))
   (∃ g3 : GRe, ((List.length g3.9 ≤ (16777000 : Nat)) ∧
   ((g3.7 = g2.7) ∧
   ((g3.8 = g2.8) ∧
   (((0 : Nat) = (0 : Nat)) ∧
   (((0 : Nat) = (0 : Nat)) ∧
   (((0 : Nat) = (0 : Nat)) ∧
   ((List.length g3.9 = List.length y2) ∧
   (((0 : Nat) = (0 : Nat)) ∧
   (((0 : Int) = (0 : Int)) ∧
   ((Eq (α := List Value) (gC enF g3.1) (gC enF g2.1)) ∧
   ((Plain (gC enF g3.1)) ∧
   ((Eq (α := List Value) (gC enF g3.2) (gC enF g2.2)) ∧
   ((Plain (gC enF g3.2)) ∧
   ((Eq (α := List Value) (gC enF g3.3) (gC enF g2.3)) ∧
   ((Plain (gC enF g3.3)) ∧
   ((g3.4.1 = g2.4.1) ∧
   ((g3.4.2 = g2.4.2) ∧
   ((g3.4.3 = g2.4.3) ∧
   ((g3.4.4 = g2.4.4) ∧
   (((0 : Nat) = (0 : Nat)) ∧
   ((List.length g3.1 = List.length g2.1) ∧
   ((g3.4.5 = g2.4.5) ∧
   ((g3.4.6 = g2.4.6) ∧
   (((0 : Nat) = (0 : Nat)) ∧
   ((List.length g3.2 = List.length g2.2) ∧
   ((g3.4.7 = g2.4.7) ∧
   ((g3.4.8 = g2.4.8) ∧
   ((g3.4.9 = g2.4.9) ∧
   ((g3.4.10 = g2.4.10) ∧
   ((ByteArray.mk #[] = ByteArray.mk #[]) ∧
   ((ByteArray.mk #[] = ByteArray.mk #[]) ∧
   ((ByteArray.mk #[] = ByteArray.mk #[]) ∧
   ((ByteArray.mk #[] = ByteArray.mk #[]) ∧
   (((0 : Int) = (0 : Int)) ∧
   (((0 : Int) = (0 : Int)) ∧
   (((0 : Int) = (0 : Int)) ∧
   ((ByteArray.mk #[] = ByteArray.mk #[]) ∧
   (((0 : Int) = (0 : Int)) ∧
   (((0 : Int) = (0 : Int)) ∧
   ((Eq (α := List Value) (gC enF g3.9) (gC enF y2)) ∧
   ((Plain (gC enF g3.9)) ∧
   ((Eq (α := List Value) ([]) ([])) ∧
   (∀ (y3 : List Fl), ((y3 = noAge g3.9) →
   ((x.1 = g3.4.1) ∧
   ((x.2 = g3.4.2) ∧
   ((x.3 = g3.4.3) ∧
   ((x.4 = g3.4.4) ∧
   (((0 : Nat) = (0 : Nat)) ∧
   ((List.length d = List.length g3.1) ∧
   ((x.5 = g3.4.5) ∧
   ((x.6 = g3.4.6) ∧
   (((0 : Nat) = (0 : Nat)) ∧
   ((List.length o = List.length y3) ∧
   ((x.7 = g3.4.7) ∧
   ((x.8 = g3.4.8) ∧
   ((asked = g3.7) ∧
   ((came = g3.8) ∧
   ((Eq (α := List Value) (gC enF d) (gC enF g3.1)) ∧
   ((Plain (gC enF d)) ∧
   ((Eq (α := List Value) (gC enF e) (gC enF g3.2)) ∧
   ((Plain (gC enF e)) ∧
   ((Eq (α := List Value) (gC enF s) (gC enF g3.3)) ∧
   ((Plain (gC enF s)) ∧
   ((Eq (α := List Value) (gC enF o) (gC enF y3)) ∧
   ((Plain (gC enF o)) ∧
   True)))))))))))))))))))))))))))))))))))))))))))))))))))))))))))))))))))
   ((x.1 = g2.4.1) ∧
   ((x.2 = g2.4.2) ∧
   ((x.3 = g2.4.3) ∧
   ((x.4 = g2.4.4) ∧
   (((0 : Nat) = (0 : Nat)) ∧
   ((List.length d = List.length g2.1) ∧
   ((x.5 = g2.4.5) ∧
   ((x.6 = g2.4.6) ∧
   (((0 : Nat) = (0 : Nat)) ∧
   ((List.length o = List.length y2) ∧
   ((x.7 = g2.4.7) ∧
   ((x.8 = g2.4.8) ∧
   ((asked = g2.7) ∧
   ((came = g2.8) ∧
   ((Eq (α := List Value) (gC enF d) (gC enF g2.1)) ∧
   ((Plain (gC enF d)) ∧
   ((Eq (α := List Value) (gC enF e) (gC enF g2.2)) ∧
   ((Plain (gC enF e)) ∧
   ((Eq (α := List Value) (gC enF s) (gC enF g2.3)) ∧
   ((Plain (gC enF s)) ∧
   ((Eq (α := List Value) (gC enF o) (gC enF y2)) ∧
   ((Plain (gC enF o)) ∧
   True)))))))))))))))))))))))))))))))))))))))))))))))))))))))))))))))))))))))))))))))))))))))))))))))))))))))))))))))))))))) := by kernel_rfl
theorem kp_con (s : ByteArray) : Con Try.prog 39 [.string s] [] (.bool (cntS s)) [] := by
  obtain ⟨s, rfl⟩ : ∃ l, s = bs l := ⟨L s, rfl⟩
  refine con_vc (E := E0) mixed (calls_envN _) (lok_envN _) (M := noM) lm_none (kp_vc s _) ?_
  simp only [ofNat_eq, toNat_cast, Nat.zero_add, Nat.add_zero, Nat.mul_one, List.drop_zero, bCells_len, bCells_drop, bCells_take, bCells_app, bCells_one, bCells_plain, List.length_replicate, List.length_append, List.length_take, List.length_drop, List.take_length, and_true, true_and, and_self, decide_true, List.length_nil, List.length_cons, Nat.sub_zero, dB_mk, dB_ro, List.take_zero]
  unfold cntS cntL
  have q1 : (⟨#[99, 111, 110, 116, 101, 110, 116, 45, 108, 101, 110, 103, 116, 104]⟩ : ByteArray) = bs sCl := rfl
  have q2 : (⟨#[99, 111, 110, 116, 101, 110, 116, 45, 101, 110, 99, 111, 100, 105, 110, 103]⟩ : ByteArray) = bs sCe := rfl
  have q3 : (⟨#[99, 111, 110, 116, 101, 110, 116, 45, 116, 121, 112, 101]⟩ : ByteArray) = bs sCt := rfl
  have q4 : (⟨#[99, 111, 110, 116, 101, 110, 116, 45, 114, 97, 110, 103, 101]⟩ : ByteArray) = bs sCr := rfl
  simp only [q1, q2, q3, q4, strEq_bs, L_bse]
  repeat' refine br_intro (fun _ => ?_) (fun _ => ?_)
  all_goals simp_all
theorem cRe_ok : ∀ f a rows p v news, cRe f a rows = some (p, v, news) → p → Con Try.prog f a rows v (rows ++ news) := by
  intro f a rows p v news h hp
  have e : ∀ l, decF (gRo enF l).cells = l := fun l => decF_gC l
  unfold cRe at h
  split at h <;> simp only [Option.some.injEq, Prod.mk.injEq, reduceCtorEq] at h <;> obtain ⟨rfl, rfl, rfl⟩ := h
  · obtain ⟨⟨l, rfl, rfl⟩, h1, h2⟩ := hp
    simp only [alV, alN, alB, e, List.append_nil] at h2 ⊢
    exact Ra_con l (L _) h1 h2
  · exact kp_con _
theorem E1_piece : PieceOk ERe 3 (21, pRe1, specE1) := by
  refine piece_loop mixed (calls_envC cRe_ok) (lok_envC _ _ _) lm_none (n := 60) (by kernel_rfl) (fun _ : GRe => (⟨0, []⟩ : StRn)) (fun g s => s.i ≤ g.e.length ∧ s.acc = mer1 (g.e.take s.i) g.s) (fun g s => g.e.length - s.i) (sl := slE1) (rl := fun g s => rlE g s.acc) (fun g hg => ⟨Nat.zero_le _, rfl⟩) (fun g s hg hi => ?_)
  refine (E1_round g s _ _).mpr ?_
  obtain ⟨i, acc⟩ := s
  obtain ⟨h1, h2⟩ := hi
  obtain ⟨g1, g2, g3⟩ := hg
  have hm : maxLen = 9223372036854775807 := by unfold maxLen; rfl
  simp only at h1 h2
  subst h2
  have hkl : (mer1 (g.e.take i) g.s).length ≤ i := Nat.le_trans (List.length_filter_le _ _) (by simp; omega)
  simp only [ofNat_eq, toNat_cast, Nat.zero_add, Nat.add_zero, Nat.mul_one, List.drop_zero, bCells_len, bCells_drop, bCells_take, bCells_app, bCells_one, bCells_plain, List.length_replicate, List.length_append, List.length_take, List.length_drop, List.take_length, and_true, true_and, and_self, decide_true, List.length_nil, List.length_cons, Nat.sub_zero, dB_mk, dB_ro, List.take_zero, fPl, fLen, fTake, true_and, and_true, Nat.zero_add, List.drop_zero, Int.toNat_natCast]
  refine br_if (fun h => br_dec (by omega) ?_) (fun h => ⟨_, by rw [List.take_of_length_le (by omega)], rfl, rfl⟩)
  have hi : i < g.e.length := by omega
  obtain ⟨c1, c2, c3, c4⟩ := fGet g.e i hi
  have w := i64_succ (show i < 9223372036854775807 by omega)
  have ht : g.e.take (i + 1) = g.e.take i ++ [g.e[i]] := List.take_succ_eq_append_getElem hi
  have hf : mer1 (g.e.take (i + 1)) g.s = mer1 (g.e.take i) g.s ++ (if cntL g.e[i].n || decide (allN g.e[i].n g.s = 0) then [g.e[i]] else []) := by
    rw [ht]; unfold mer1; rw [List.filter_append]; congr 1
    by_cases hc : (cntL g.e[i].n || decide (allN g.e[i].n g.s = 0)) = true
    · rw [if_pos hc]; simp only [List.filter_cons, hc, if_true, List.filter_nil]
    · rw [if_neg hc]; simp only [List.filter_cons, hc, List.filter_nil]; rfl
  have a1 : ∀ (l : List Fl) b o nm, alB ⟨gC enF l, b, o⟩ (bs nm) = (allL l nm).length := fun l b o nm => by unfold alB; simp only; rw [decF_gC, L_bs]
  have a2 : ∀ (l : List Fl) b o nm, alN ⟨gC enF l, b, o⟩ (bs nm) = (allN nm l : Nat) := fun l b o nm => by unfold alN; simp only; rw [decF_gC, L_bs]
  simp only [c1, c2, c3, c4, w, true_and, cntS, L_bse, fOne1, gC_app, a1, a2]
  have g3' := g3 g.e[i].n
  have yes : (cntL g.e[i].n || decide (allN g.e[i].n g.s = 0)) = true → ∃ j : StRn, (j.i ≤ g.e.length ∧ j.acc = mer1 (g.e.take j.i) g.s) ∧ g.e.length - j.i < g.e.length - i ∧ j.acc.length = (mer1 (g.e.take i) g.s).length + 1 ∧ (j.i : Int) = ((i + 1 : Nat) : Int) ∧ gC enF j.acc = gC enF (mer1 (g.e.take i) g.s ++ [⟨g.e[i].n, g.e[i].v⟩]) := fun k => ⟨⟨i + 1, mer1 (g.e.take (i + 1)) g.s⟩, ⟨by simp only; omega, rfl⟩, by simp only; omega, by simp only [hf, k]; simp, rfl, by simp only [hf, k]; rfl⟩
  have no : (cntL g.e[i].n || decide (allN g.e[i].n g.s = 0)) = false → ∃ j : StRn, (j.i ≤ g.e.length ∧ j.acc = mer1 (g.e.take j.i) g.s) ∧ g.e.length - j.i < g.e.length - i ∧ j.acc.length = (mer1 (g.e.take i) g.s).length ∧ (j.i : Int) = ((i + 1 : Nat) : Int) ∧ gC enF j.acc = gC enF (mer1 (g.e.take i) g.s) := fun k => ⟨⟨i + 1, mer1 (g.e.take (i + 1)) g.s⟩, ⟨by simp only; omega, rfl⟩, by simp only; omega, by simp only [hf, k]; simp, rfl, by simp only [hf, k]; simp⟩
  refine br_intro (fun k => br_dec (by omega) (br_dec (by omega) (yes (by simp [k])))) (fun k => ⟨⟨by omega, isF_mk _ _ rfl, by omega, by omega⟩, br_intro (fun k2 => br_dec (by omega) (br_dec (by omega) (yes ?_))) (fun k2 => no ?_)⟩)
  · have k2 : ¬ ((allN g.e[i].n g.s : Nat) : Int) > 0 := by simpa using k2
    simp only [k, Bool.false_or]; exact decide_eq_true (by omega)
  · have k2 : ((allN g.e[i].n g.s : Nat) : Int) > 0 := by simpa using k2
    simp only [k, Bool.false_or]; exact decide_eq_false (by omega)
theorem E2_piece : PieceOk ERe 3 (21, pRe2, specE2) := by
  refine piece_loop mixed (calls_envC cRe_ok) (lok_envC _ _ _) lm_none (n := 60) (by kernel_rfl) (fun g : GRe => (⟨0, g.acc⟩ : StRn)) (fun g s => s.i ≤ g.s.length ∧ s.acc = g.acc ++ ren2 (g.s.take s.i)) (fun g s => g.s.length - s.i) (sl := slE2) (rl := fun g s => rlE g s.acc) (fun g hg => ⟨Nat.zero_le _, by simp [ren2]⟩) (fun g s hg hi => ?_)
  refine (E2_round g s _ _).mpr ?_
  obtain ⟨i, acc⟩ := s
  obtain ⟨h1, h2⟩ := hi
  simp only at h1 h2
  subst h2
  have hg' : g.acc.length + g.s.length ≤ 16777000 := hg
  have hkl : (ren2 (g.s.take i)).length ≤ i := Nat.le_trans (List.length_filter_le _ _) (by simp; omega)
  have hkm : (g.acc ++ ren2 (g.s.take i)).length ≤ g.acc.length + i := by rw [List.length_append]; omega
  obtain ⟨A, hA⟩ : ∃ A, A = g.acc ++ ren2 (g.s.take i) := ⟨_, rfl⟩
  rw [← hA] at hkm ⊢
  simp only [ofNat_eq, toNat_cast, Nat.zero_add, Nat.add_zero, Nat.mul_one, List.drop_zero, bCells_len, bCells_drop, bCells_take, bCells_app, bCells_one, bCells_plain, List.length_replicate, List.length_append, List.length_take, List.length_drop, List.take_length, and_true, true_and, and_self, decide_true, List.length_nil, List.length_cons, Nat.sub_zero, dB_mk, dB_ro, List.take_zero, fPl, fLen, fTake, true_and, and_true, Nat.zero_add, List.drop_zero, Int.toNat_natCast]
  refine br_if (fun h => br_dec (by omega) ?_) (fun h => ⟨A, by rw [hA, List.take_of_length_le (by omega)], rfl, rfl⟩)
  have hi : i < g.s.length := by omega
  obtain ⟨c1, c2, c3, c4⟩ := fGet g.s i hi
  have w := i64_succ (show i < 9223372036854775807 by omega)
  have ht : g.s.take (i + 1) = g.s.take i ++ [g.s[i]] := List.take_succ_eq_append_getElem hi
  have hf : g.acc ++ ren2 (g.s.take (i + 1)) = A ++ (if cntL g.s[i].n then [] else [g.s[i]]) := by
    rw [ht, hA]; unfold ren2; rw [List.filter_append, ← List.append_assoc]; congr 1
    by_cases hc : cntL g.s[i].n = true <;> simp [hc]
  simp only [c1, c2, c3, c4, w, true_and, cntS, L_bse, fOne1, gC_app]
  refine br_intro (fun k => br_dec (by omega) (br_dec (by omega) (br_dec (by omega) ⟨⟨i + 1, g.acc ++ ren2 (g.s.take (i + 1))⟩, ⟨by simp only; omega, rfl⟩, by simp only; omega, ?_, rfl, ?_⟩))) (fun k => ⟨⟨i + 1, g.acc ++ ren2 (g.s.take (i + 1))⟩, ⟨by simp only; omega, rfl⟩, by simp only; omega, ?_, rfl, ?_⟩)
  · have k : cntL g.s[i].n = false := by simpa using k
    simp only [hf, k]; simp
  · have k : cntL g.s[i].n = false := by simpa using k
    simp only [hf, k]; simp
  · have k : cntL g.s[i].n = true := by simpa using k
    simp only [hf, k]; simp
  · have k : cntL g.s[i].n = true := by simpa using k
    simp only [hf, k]; simp
theorem E3_piece : PieceOk ERe 3 (21, pRe3, specE3) := by
  refine piece_loop mixed (calls_envC cRe_ok) (lok_envC _ _ _) lm_none (n := 60) (by kernel_rfl) (fun g : GRe => (⟨0, []⟩ : StRn)) (fun g s => s.i ≤ g.acc.length ∧ s.acc = noAge (g.acc.take s.i)) (fun g s => g.acc.length - s.i) (sl := slE3) (rl := rlE3) (fun g hg => ⟨Nat.zero_le _, rfl⟩) (fun g s hg hi => ?_)
  refine (E3_round g s _ _).mpr ?_
  obtain ⟨i, acc⟩ := s
  obtain ⟨h1, h2⟩ := hi
  simp only at h1 h2
  subst h2
  have hg' : g.acc.length ≤ 16777000 := hg
  have hkl : (noAge (g.acc.take i)).length ≤ i := Nat.le_trans (List.length_filter_le _ _) (by simp; omega)
  simp only [ofNat_eq, toNat_cast, Nat.zero_add, Nat.add_zero, Nat.mul_one, List.drop_zero, bCells_len, bCells_drop, bCells_take, bCells_app, bCells_one, bCells_plain, List.length_replicate, List.length_append, List.length_take, List.length_drop, List.take_length, and_true, true_and, and_self, decide_true, List.length_nil, List.length_cons, Nat.sub_zero, dB_mk, dB_ro, List.take_zero, fPl, fLen, fTake, true_and, and_true, Nat.zero_add, List.drop_zero, Int.toNat_natCast]
  refine br_if (fun h => br_dec (by omega) ?_) (fun h => ⟨_, by rw [List.take_of_length_le (by omega)], rfl, rfl⟩)
  have hi : i < g.acc.length := by omega
  obtain ⟨c1, c2, c3, c4⟩ := fGet g.acc i hi
  have w := i64_succ (show i < 9223372036854775807 by omega)
  have ht : g.acc.take (i + 1) = g.acc.take i ++ [g.acc[i]] := List.take_succ_eq_append_getElem hi
  have hf : noAge (g.acc.take (i + 1)) = noAge (g.acc.take i) ++ (if g.acc[i].n = sAge then [] else [g.acc[i]]) := by
    rw [ht]; unfold noAge; rw [List.filter_append]; congr 1
    by_cases hc : g.acc[i].n = sAge <;> simp [hc]
  have qa : (⟨#[97, 103, 101]⟩ : ByteArray) = bs sAge := rfl
  simp only [c1, c2, c3, c4, w, true_and, qa, strEq_bs, fOne1, gC_app]
  refine br_intro (fun k => br_dec (by omega) (br_dec (by omega) (br_dec (by omega) ⟨⟨i + 1, noAge (g.acc.take (i + 1))⟩, ⟨by simp only; omega, rfl⟩, by simp only; omega, ?_, rfl, ?_⟩))) (fun k => ⟨⟨i + 1, noAge (g.acc.take (i + 1))⟩, ⟨by simp only; omega, rfl⟩, by simp only; omega, ?_, rfl, ?_⟩)
  · have k : ¬ g.acc[i].n = sAge := by simpa using k
    simp only [hf, k]; simp
  · have k : ¬ g.acc[i].n = sAge := by simpa using k
    simp only [hf, k]; simp
  · have k : g.acc[i].n = sAge := by simpa using k
    simp only [hf, k]; simp
  · have k : g.acc[i].n = sAge := by simpa using k
    simp only [hf, k]; simp
theorem Re_con (x : EnY) (st k asked came : Int) (d e s : List Fl) (h1 : d.length ≤ 16777000) (h2 : e.length + s.length ≤ 16777000) (b : BigW s) :
    Con Try.prog 21 [.agg ⟨enCy x 0 d.length 1 e.length⟩, .agg ⟨rsCy st 2 s.length k⟩, .int .i64 asked, .int .i64 came] [gRo enF d, gRo enF e, gRo enF s] (.agg ⟨enCy ⟨x.m, x.s, x.a, x.p, x.k, x.st, x.k2, x.body, asked, came⟩ 0 d.length 3 (merL e s).length⟩) [gRo enF d, gRo enF e, gRo enF s, gOwn enF (merL e s)] := by
  refine con_vc (E := ERe) mixed (calls_envC cRe_ok) (lok_envC _ _ _) (M := mRe) (lm_three E1_piece E2_piece E3_piece) (Re_vc x st k asked came d e s _) ?_
  have hm : maxLen = 9223372036854775807 := by unfold maxLen; rfl
  have a1 : ∀ (l : List Fl) b o nm, alB ⟨gC enF l, b, o⟩ (bs nm) = (allL l nm).length := fun l b o nm => by unfold alB; simp only; rw [decF_gC, L_bs]
  have a2 : ∀ (l : List Fl) b o nm, alN ⟨gC enF l, b, o⟩ (bs nm) = (allN nm l : Nat) := fun l b o nm => by unfold alN; simp only; rw [decF_gC, L_bs]
  have qa : (⟨#[97, 103, 101]⟩ : ByteArray) = bs sAge := rfl
  simp only [ofNat_eq, toNat_cast, Nat.zero_add, Nat.add_zero, Nat.mul_one, List.drop_zero, bCells_len, bCells_drop, bCells_take, bCells_app, bCells_one, bCells_plain, List.length_replicate, List.length_append, List.length_take, List.length_drop, List.take_length, and_true, true_and, and_self, decide_true, List.length_nil, List.length_cons, Nat.sub_zero, dB_mk, dB_ro, List.take_zero, fPl, fLen, fTake, fOne, true_and, and_true, Nat.zero_add, List.drop_zero, a1, a2, qa]
  refine ⟨⟨d, e, s, x, st, k, asked, came, []⟩, ?_⟩
  simp only [true_and, and_true]
  refine ⟨⟨by omega, by omega, b⟩, fun y hy => ⟨⟨d, e, s, x, st, k, asked, came, y⟩, ?_⟩⟩
  have hy1 : y.length ≤ e.length := by rw [hy]; exact List.length_filter_le _ _
  have bA := b sAge
  simp only [true_and, and_true]
  refine ⟨by omega, rfl, fun y2 h3 => ?_⟩
  have hy2 : (ren2 s).length ≤ s.length := List.length_filter_le _ _
  have hy3 : y2.length ≤ y.length + s.length := by rw [h3, List.length_append]; omega
  have h3' : y2 = mer1 e s ++ ren2 s := by rw [h3, hy]
  refine ⟨⟨by omega, isF_mk _ _ rfl, by omega, by omega⟩, br_intro (fun k2 => ?_) (fun k2 => ?_)⟩
  · have k2 : ¬ ((allN sAge s : Nat) : Int) > 0 := by simpa using k2
    have e3 : merL e s = noAge y2 := by unfold merL; rw [if_pos (by omega), h3']
    rw [e3]
    refine ⟨⟨d, e, s, x, st, k, asked, came, y2⟩, ?_⟩
    simp only [true_and, and_true]
    refine ⟨by omega, fun y4 h4 => ?_⟩
    subst h4
    exact ⟨rfl, rfl⟩
  · have k2 : ((allN sAge s : Nat) : Int) > 0 := by simpa using k2
    have e3 : merL e s = y2 := by unfold merL; rw [if_neg (by omega), h3']
    rw [e3]
    exact ⟨rfl, rfl⟩
end Go.Proofs.Ythkidlkcjohppaa.tk
