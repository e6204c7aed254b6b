/- An entry, updated by the response to its validation. -/
import Derived.Test.YthkidlkcjohppaaSz9
import Derived.Test.YthkidlkcjohppaaRows
import Derived.Test.YthkidlkcjohppaaLmgSame
set_option linter.unusedSimpArgs false
set_option linter.unusedVariables false
namespace Go.Proofs.Ythkidlkcjohppaa.tk
open Go Go.Ev Go.Sy Go.RowKit Go.Proofs.Ythkidlkcjohppaa.gl
def sCl : List UInt8 := [99, 111, 110, 116, 101, 110, 116, 45, 108, 101, 110, 103, 116, 104]
def sCe : List UInt8 := [99, 111, 110, 116, 101, 110, 116, 45, 101, 110, 99, 111, 100, 105, 110, 103]
def sCt : List UInt8 := [99, 111, 110, 116, 101, 110, 116, 45, 116, 121, 112, 101]
def sCr : List UInt8 := [99, 111, 110, 116, 101, 110, 116, 45, 114, 97, 110, 103, 101]
def sAge : List UInt8 := [97, 103, 101]
def cntL (s : List UInt8) : Bool := decide (s = sCl) || decide (s = sCe) || decide (s = sCt) || decide (s = sCr)
def cntS (s : ByteArray) : Bool := cntL (L s)
def stayB (s : List Fl) (nm : List UInt8) : Bool := cntL nm || (decide (allN nm s = 0) && decide (nm ≠ sAge))
def ren1 (e s : List Fl) : List Fl := e.filter fun f => stayB s f.n
def ren2 (s : List Fl) : List Fl := s.filter fun f => !cntL f.n
def renL (e s : List Fl) : List Fl := ren1 e s ++ ren2 s
def cRn : FuncId → List Value → List Row → Option (Prop × Value × List Row)
  | 32, [.slice (some ⟨0, 0, none⟩) n 2, .string s], [r0] => some (IsF r0 n ∧ n ≤ maxLen ∧ alB r0 s ≤ 16777216, .tuple #[.string (alV r0 s), .int .i64 (alN r0 s)], [])
  | 33, [.string s], [] => some (True, .bool (cntS s), [])
  | _, _, _ => none
noncomputable abbrev ERn : Env := envC Try.prog cRn (fun f => Nat.beq f 32 || Nat.beq f 33)
structure GRn where
  d : List Fl
  e : List Fl
  s : List Fl
  x : EnY
  st : Int
  k : Int
  asked : Int
  came : Int
  acc : List Fl
structure StRn where
  i : Nat
  acc : List Fl
def rsCy (st : Int) (r n : Nat) (k : Int) : List Value := [.int .i64 st, .slice (some ⟨r, 0, none⟩) n 2, .int .i64 k]
def zEn : List Value := [.string ⟨#[]⟩, .string ⟨#[]⟩, .string ⟨#[]⟩, .string ⟨#[]⟩, .slice none 0 0, .int .i64 0, .int .i64 0, .slice none 0 0, .int .i64 0, .string ⟨#[]⟩, .int .i64 0, .int .i64 0]
def pRn : List Nat := [0, 1, 0, 1, 1]
def slR0 (g : GRn) (a : List Fl) : List (Nat × Value) := [(2, .int .i64 g.asked), (3, .int .i64 g.came), (4, .pointer (some ⟨3, 0, none⟩)), (5, .pointer (some ⟨4, 0, none⟩)), (8, .pointer (some ⟨5, 0, none⟩)), (9, .slice (some ⟨6, 0, none⟩) a.length 2)]
def slRn (g : GRn) (s : StRn) : List (Nat × Value) := [(2, .int .i64 g.asked), (3, .int .i64 g.came), (4, .pointer (some ⟨3, 0, none⟩)), (5, .pointer (some ⟨4, 0, none⟩)), (8, .pointer (some ⟨5, 0, none⟩)), (9, .slice (some ⟨6, 0, none⟩) s.acc.length 2), (18, .slice (some ⟨1, 0, none⟩) g.e.length 2), (19, .int .i64 (g.e.length : Nat)), (20, .int .i64 (s.i : Nat))]
def rlR0 (g : GRn) (a : List Fl) : List (Nat × Row) := [(0, gRo enF g.d), (1, gRo enF g.e), (2, gRo enF g.s), (3, ⟨enCy g.x 0 g.d.length 1 g.e.length, false, .cells false⟩), (4, ⟨rsCy g.st 2 g.s.length g.k, false, .cells false⟩), (5, ⟨zEn, false, .cells false⟩), (6, gOwn enF a)]
def rlRn (g : GRn) (s : StRn) : List (Nat × Row) := rlR0 g s.acc
def wsRn (g : GRn) : List (Gate (List Fl)) := [⟨.exit 0, fun a => a = ren1 g.e g.s, fun a => slR0 g a, fun a => rlR0 g a, 7⟩]
def specRn : Sy.Spec := specOf 3 7 79 (fun g : GRn => g.e.length ≤ 16777000 ∧ g.s.length ≤ maxLen ∧ BigW g.s) (fun g => slRn g ⟨0, []⟩) (fun g => rlRn g ⟨0, []⟩) wsRn
def pRm : List Nat := [0, 1, 0, 1, 1, 1]
def slM0 (g : GRn) (a : List Fl) : List (Nat × Value) := [(2, .int .i64 g.asked), (3, .int .i64 g.came), (4, .pointer (some ⟨3, 0, none⟩)), (8, .pointer (some ⟨4, 0, none⟩)), (9, .slice (some ⟨5, 0, none⟩) a.length 2)]
def slRm (g : GRn) (s : StRn) : List (Nat × Value) := [(2, .int .i64 g.asked), (3, .int .i64 g.came), (4, .pointer (some ⟨3, 0, none⟩)), (8, .pointer (some ⟨4, 0, none⟩)), (9, .slice (some ⟨5, 0, none⟩) s.acc.length 2), (50, .slice (some ⟨2, 0, none⟩) g.s.length 2), (51, .int .i64 (g.s.length : Nat)), (52, .int .i64 (s.i : Nat))]
def rlM0 (g : GRn) (a : List Fl) : List (Nat × Row) := [(0, gRo enF g.d), (1, gRo enF g.e), (2, gRo enF g.s), (3, ⟨enCy g.x 0 g.d.length 1 g.e.length, false, .cells false⟩), (4, ⟨zEn, false, .cells false⟩), (5, gOwn enF a)]
def rlRm (g : GRn) (s : StRn) : List (Nat × Row) := rlM0 g s.acc
def wsRm (g : GRn) : List (Gate (List Fl)) := [⟨.exit 2, fun a => a = g.acc ++ ren2 g.s, fun a => slM0 g a, fun a => rlM0 g a, 6⟩]
def specRm : Sy.Spec := specOf 3 6 79 (fun g : GRn => g.acc.length + g.s.length ≤ 16777000) (fun g => slRm g ⟨0, g.acc⟩) (fun g => rlRm g ⟨0, g.acc⟩) wsRm
def mRn := mOf [(12, pRn, specRn), (12, pRm, specRm)]
theorem cc_vc (s : List UInt8) (b : Bool) : mcall E0 noM 60 33 [.string (bs s)] ⟨mkR (nums 0 []), 0⟩ (retIs 0 (.bool b) []) =
  (br (strEq (bs s) (ByteArray.mk #[(99 : UInt8), (111 : UInt8), (110 : UInt8), (116 : UInt8), (101 : UInt8), (110 : UInt8), (116 : UInt8), (45 : UInt8), (108 : UInt8), (101 : UInt8), (110 : UInt8), (103 : UInt8), (116 : UInt8), (104 : UInt8)]))
   ((b = true) ∧
   True)
   (br (strEq (bs s) (ByteArray.mk #[(99 : UInt8), (111 : UInt8), (110 : UInt8), (116 : UInt8), (101 : UInt8), (110 : UInt8), (116 : UInt8), (45 : UInt8), (101 : UInt8), (110 : UInt8), (99 : UInt8), (111 : UInt8), (100 : UInt8), (105 : UInt8), (110 : UInt8), (103 : UInt8)]))
    ((b = true) ∧
    True)
    (br (strEq (bs s) (ByteArray.mk #[(99 : UInt8), (111 : UInt8), (110 : UInt8), (116 : UInt8), (101 : UInt8), (110 : UInt8), (116 : UInt8), (45 : UInt8), (116 : UInt8), (121 : UInt8), (112 : UInt8), (101 : UInt8)]))
     ((b = true) ∧
     True)
     (br (strEq (bs s) (ByteArray.mk #[(99 : UInt8), (111 : UInt8), (110 : UInt8), (116 : UInt8), (101 : UInt8), (110 : UInt8), (116 : UInt8), (45 : UInt8), (114 : UInt8), (97 : UInt8), (110 : UInt8), (103 : UInt8), (101 : UInt8)]))
      ((b = true) ∧
      True)
      ((b = false) ∧
      True))))) := by kernel_rfl
theorem Rn_round (g : GRn) (s : StRn) (Inv : StRn → Prop) (m : StRn → Nat) : mev ERn noM 60 12 (0 :: pRn) false (codeOf Try.prog 12 (0 :: pRn)) ⟨mkOv (slRn g s), 79, []⟩ none ⟨mkR (rlRn g s), 7⟩ (roundK 3 7 79 Inv m (slRn g) (rlRn g) (wsRn g) s) =
  (br (decide ((↑s.1 : Int) < (↑(List.length g.2) : Int)))
   (br (decide ((0 : Int) ≤ (↑s.1 : Int) ∧ (↑s.1 : Int) < (↑(List.length g.2) : Int)))
    ((Eq (α := Option Value) ((gC enF g.2)[(0 : Nat) + Int.toNat (↑s.1 : Int) * (2 : Nat)]?) (some (Value.string (cellS (gC enF g.2) ((0 : Nat) + Int.toNat (↑s.1 : Int) * (2 : Nat)))))) ∧
    ((Eq (α := Option Value) ((gC enF g.2)[(0 : Nat) + Int.toNat (↑s.1 : Int) * (2 : Nat) + (1 : Nat)]?) (some (Value.string (cellS (gC enF g.2) ((0 : Nat) + Int.toNat (↑s.1 : Int) * (2 : Nat) + (1 : Nat)))))) ∧
    ((((((0 : Nat) + List.length g.3 * (2 : Nat) ≤ List.length (gC enF g.3) ∧ Plain (List.take (List.length g.3 * (2 : Nat)) (List.drop (0 : Nat) (gC enF g.3)))) ∧ (True ∧ True)) ∧ (True ∧ (IsF (Row.mk (List.take (List.length g.3 * (2 : Nat)) (List.drop (0 : Nat) (gC enF g.3))) true (Ob.cells true)) (List.length g.3) ∧ (List.length g.3 ≤ (9223372036854775807 : Nat) ∧ alB (Row.mk (List.take (List.length g.3 * (2 : Nat)) (List.drop (0 : Nat) (gC enF g.3))) true (Ob.cells true)) (cellS (gC enF g.2) ((0 : Nat) + Int.toNat (↑s.1 : Int) * (2 : Nat))) ≤ (16777216 : Nat)))))) ∧
    ((((True ∧ True) ∧ (True ∧ True))) ∧
    (br (cntS (cellS (gC enF g.2) ((0 : Nat) + Int.toNat (↑s.1 : Int) * (2 : Nat))))
     (br (decide (List.length s.2 + (1 : Nat) ≤ (16777216 : Nat)))
      (br (decide ((0 : Nat) + List.length s.2 * (2 : Nat) ≤ List.length (gC enF s.2)))
       (∃ j : StRn, ((Inv j) ∧
       ((m j < m s) ∧
       ((g.7 = g.7) ∧
       ((g.8 = g.8) ∧
       (((0 : Nat) = (0 : Nat)) ∧
       (((0 : Nat) = (0 : Nat)) ∧
       (((0 : Nat) = (0 : Nat)) ∧
       (((0 : Nat) = (0 : Nat)) ∧
       ((List.length j.2 = List.length s.2 + (1 : Nat)) ∧
       (((0 : Nat) = (0 : Nat)) ∧
       ((List.length g.2 = List.length g.2) ∧
       (((↑(List.length g.2) : Int) = (↑(List.length g.2) : Int)) ∧
       (((↑j.1 : Int) = IntKind.wrap IntKind.i64 ((↑s.1 : Int) + (1 : Int))) ∧
       ((Eq (α := List Value) (gC enF g.1) (gC enF g.1)) ∧
       ((Plain (gC enF g.1)) ∧
       ((Eq (α := List Value) (gC enF g.2) (gC enF g.2)) ∧
       ((Plain (gC enF g.2)) ∧
       ((Eq (α := List Value) (gC enF g.3) (gC enF g.3)) ∧
       ((Plain (gC enF g.3)) ∧
       ((g.4.1 = g.4.1) ∧
       ((g.4.2 = g.4.2) ∧
       ((g.4.3 = g.4.3) ∧
       ((g.4.4 = g.4.4) ∧
       (((0 : Nat) = (0 : Nat)) ∧
       ((List.length g.1 = List.length g.1) ∧
       ((g.4.5 = g.4.5) ∧
       ((g.4.6 = g.4.6) ∧
       (((0 : Nat) = (0 : Nat)) ∧
       ((List.length g.2 = List.length g.2) ∧
       ((g.4.7 = g.4.7) ∧
       ((g.4.8 = g.4.8) ∧
       ((g.4.9 = g.4.9) ∧
       ((g.4.10 = g.4.10) ∧
       ((g.5 = g.5) ∧
       (((0 : Nat) = (0 : Nat)) ∧
       ((List.length g.3 = List.length g.3) ∧
       ((g.6 = g.6) ∧
       ((ByteArray.mk #[] = ByteArray.mk #[]) ∧
       ((ByteArray.mk #[] = ByteArray.mk #[]) ∧
       ((ByteArray.mk #[] = ByteArray.mk #[]) ∧
       ((ByteArray.mk #[] = ByteArray.mk #[]) ∧
       (((0 : Int) = (0 : Int)) ∧
       (((0 : Int) = (0 : Int)) ∧
       (((0 : Int) = (0 : Int)) ∧
       ((ByteArray.mk #[] = ByteArray.mk #[]) ∧
       (((0 : Int) = (0 : Int)) ∧
       (((0 : Int) = (0 : Int)) ∧
       ((Eq (α := List Value) (gC enF j.2) (List.take (List.length s.2 * (2 : Nat)) (List.drop (0 : Nat) (gC enF s.2)) ++ [Value.string (cellS (gC enF g.2) ((0 : Nat) + Int.toNat (↑s.1 : Int) * (2 : Nat))), Value.string (cellS (gC enF g.2) ((0 : Nat) + Int.toNat (↑s.1 : Int) * (2 : Nat) + (1 : Nat)))])) ∧
       ((Plain (gC enF j.2)) ∧
       True))))))))))))))))))))))))))))))))))))))))))))))))))
       False)
      False)
     (br (alN (Row.mk (List.take (List.length g.3 * (2 : Nat)) (List.drop (0 : Nat) (gC enF g.3))) true (Ob.cells true)) (cellS (gC enF g.2) ((0 : Nat) + Int.toNat (↑s.1 : Int) * (2 : Nat))) == (0 : Int))
      (br (!strEq (cellS (gC enF g.2) ((0 : Nat) + Int.toNat (↑s.1 : Int) * (2 : Nat))) (ByteArray.mk #[(97 : UInt8), (103 : UInt8), (101 : UInt8)]))
       (br (decide (List.length s.2 + (1 : Nat) ≤ (16777216 : Nat)))
        (br (decide ((0 : Nat) + List.length s.2 * (2 : Nat) ≤ List.length (gC enF s.2)))
         (∃ j : StRn, ((Inv j) ∧
         ((m j < m s) ∧
         ((g.7 = g.7) ∧
         ((g.8 = g.8) ∧
         (((0 : Nat) = (0 : Nat)) ∧
         (((0 : Nat) = (0 : Nat)) ∧
         (((0 : Nat) = (0 : Nat)) ∧
         (((0 : Nat) = (0 : Nat)) ∧
         ((List.length j.2 = List.length s.2 + (1 : Nat)) ∧
         (((0 : Nat) = (0 : Nat)) ∧
         ((List.length g.2 = List.length g.2) ∧
         (((↑(List.length g.2) : Int) = (↑(List.length g.2) : Int)) ∧
         (((↑j.1 : Int) = IntKind.wrap IntKind.i64 ((↑s.1 : Int) + (1 : Int))) ∧
         ((Eq (α := List Value) (gC enF g.1) (gC enF g.1)) ∧
         ((Plain (gC enF g.1)) ∧
         ((Eq (α := List Value) (gC enF g.2) (gC enF g.2)) ∧
         ((Plain (gC enF g.2)) ∧
         ((Eq (α := List Value) (gC enF g.3) (gC enF g.3)) ∧
         ((Plain (gC enF g.3)) ∧
         ((g.4.1 = g.4.1) ∧
         ((g.4.2 = g.4.2) ∧
         ((g.4.3 = g.4.3) ∧
         ((g.4.4 = g.4.4) ∧
         (((0 : Nat) = (0 : Nat)) ∧
         ((List.length g.1 = List.length g.1) ∧
         ((g.4.5 = g.4.5) ∧
         ((g.4.6 = g.4.6) ∧
         (((0 : Nat) = (0 : Nat)) ∧
         ((List.length g.2 = List.length g.2) ∧
         ((g.4.7 = g.4.7) ∧
         ((g.4.8 = g.4.8) ∧
         ((g.4.9 = g.4.9) ∧
         ((g.4.10 = g.4.10) ∧
         ((g.5 = g.5) ∧
         (((0 : Nat) = (0 : Nat)) ∧
         ((List.length g.3 = List.length g.3) ∧
         ((g.6 = g.6) ∧
         ((ByteArray.mk #[] = ByteArray.mk #[]) ∧
         ((ByteArray.mk #[] = ByteArray.mk #[]) ∧
         ((ByteArray.mk #[] = ByteArray.mk #[]) ∧
         ((ByteArray.mk #[] = ByteArray.mk #[]) ∧
         (((0 : Int) = (0 : Int)) ∧
         (((0 : Int) = (0 : Int)) ∧
         (((0 : Int) = (0 : Int)) ∧
         ((ByteArray.mk #[] = ByteArray.mk #[]) ∧
         (((0 : Int) = (0 : Int)) ∧
         (((0 : Int) = (0 : Int)) ∧
         ((Eq (α := List Value) (gC enF j.2) (List.take (List.length s.2 * (2 : Nat)) (List.drop (0 : Nat) (gC enF s.2)) ++ [Value.string (cellS (gC enF g.2) ((0 : Nat) + Int.toNat (↑s.1 : Int) * (2 : Nat))), Value.string (cellS (gC enF g.2) ((0 : Nat) + Int.toNat (↑s.1 : Int) * (2 : Nat) + (1 : Nat)))])) ∧
         ((Plain (gC enF j.2)) ∧
         True))))))))))))))))))))))))))))))))))))))))))))))))))
         False)
        False)
       (∃ j : StRn, ((Inv j) ∧
       ((m j < m s) ∧
       ((g.7 = g.7) ∧
       ((g.8 = g.8) ∧
       (((0 : Nat) = (0 : Nat)) ∧
       (((0 : Nat) = (0 : Nat)) ∧
       (((0 : Nat) = (0 : Nat)) ∧
       (((0 : Nat) = (0 : Nat)) ∧
       ((List.length j.2 = List.length s.2) ∧
       (((0 : Nat) = (0 : Nat)) ∧
       ((List.length g.2 = List.length g.2) ∧
       (((↑(List.length g.2) : Int) = (↑(List.length g.2) : Int)) ∧
       (((↑j.1 : Int) = IntKind.wrap IntKind.i64 ((↑s.1 : Int) + (1 : Int))) ∧
       ((Eq (α := List Value) (gC enF g.1) (gC enF g.1)) ∧
       ((Plain (gC enF g.1)) ∧
       ((Eq (α := List Value) (gC enF g.2) (gC enF g.2)) ∧
       ((Plain (gC enF g.2)) ∧
       ((Eq (α := List Value) (gC enF g.3) (gC enF g.3)) ∧
       ((Plain (gC enF g.3)) ∧
       ((g.4.1 = g.4.1) ∧
       ((g.4.2 = g.4.2) ∧
       ((g.4.3 = g.4.3) ∧
       ((g.4.4 = g.4.4) ∧
       (((0 : Nat) = (0 : Nat)) ∧
       ((List.length g.1 = List.length g.1) ∧
       ((g.4.5 = g.4.5) ∧
       ((g.4.6 = g.4.6) ∧
       (((0 : Nat) = (0 : Nat)) ∧
       ((List.length g.2 = List.length g.2) ∧
       ((g.4.7 = g.4.7) ∧
       ((g.4.8 = g.4.8) ∧
       ((g.4.9 = g.4.9) ∧
       ((g.4.10 = g.4.10) ∧
       ((g.5 = g.5) ∧
       (((0 : Nat) = (0 : Nat)) ∧
       ((List.length g.3 = List.length g.3) ∧
       ((g.6 = g.6) ∧
       ((ByteArray.mk #[] = ByteArray.mk #[]) ∧
       ((ByteArray.mk #[] = ByteArray.mk #[]) ∧
       ((ByteArray.mk #[] = ByteArray.mk #[]) ∧
       ((ByteArray.mk #[] = ByteArray.mk #[]) ∧
       (((0 : Int) = (0 : Int)) ∧
       (((0 : Int) = (0 : Int)) ∧
       (((0 : Int) = (0 : Int)) ∧
       ((ByteArray.mk #[] = ByteArray.mk #[]) ∧
       (((0 : Int) = (0 : Int)) ∧
       (((0 : Int) = (0 : Int)) ∧
       ((Eq (α := List Value) (gC enF j.2) (gC enF s.2)) ∧
       ((Plain (gC enF j.2)) ∧
       True)))))))))))))))))))))))))))))))))))))))))))))))))))
      (∃ j : StRn, ((Inv j) ∧
      ((m j < m s) ∧
      ((g.7 = g.7) ∧
      ((g.8 = g.8) ∧
      (((0 : Nat) = (0 : Nat)) ∧
      (((0 : Nat) = (0 : Nat)) ∧
      (((0 : Nat) = (0 : Nat)) ∧
      (((0 : Nat) = (0 : Nat)) ∧
      ((List.length j.2 = List.length s.2) ∧
      (((0 : Nat) = (0 : Nat)) ∧
      ((List.length g.2 = List.length g.2) ∧
      (((↑(List.length g.2) : Int) = (↑(List.length g.2) : Int)) ∧
      (((↑j.1 : Int) = IntKind.wrap IntKind.i64 ((↑s.1 : Int) + (1 : Int))) ∧
      ((Eq (α := List Value) (gC enF g.1) (gC enF g.1)) ∧
      ((Plain (gC enF g.1)) ∧
      ((Eq (α := List Value) (gC enF g.2) (gC enF g.2)) ∧
      ((Plain (gC enF g.2)) ∧
      ((Eq (α := List Value) (gC enF g.3) (gC enF g.3)) ∧
      ((Plain (gC enF g.3)) ∧
      ((g.4.1 = g.4.1) ∧
      ((g.4.2 = g.4.2) ∧
      ((g.4.3 = g.4.3) ∧
      ((g.4.4 = g.4.4) ∧
      (((0 : Nat) = (0 : Nat)) ∧
      ((List.length g.1 = List.length g.1) ∧
      ((g.4.5 = g.4.5) ∧
      ((g.4.6 = g.4.6) ∧
      (((0 : Nat) = (0 : Nat)) ∧
      ((List.length g.2 = List.length g.2) ∧
      ((g.4.7 = g.4.7) ∧
      ((g.4.8 = g.4.8) ∧
      ((g.4.9 = g.4.9) ∧
      ((g.4.10 = g.4.10) ∧
      ((g.5 = g.5) ∧
      (((0 : Nat) = (0 : Nat)) ∧
      ((List.length g.3 = List.length g.3) ∧
      ((g.6 = g.6) ∧
      ((ByteArray.mk #[] = ByteArray.mk #[]) ∧
      ((ByteArray.mk #[] = ByteArray.mk #[]) ∧
      ((ByteArray.mk #[] = ByteArray.mk #[]) ∧
      ((ByteArray.mk #[] = ByteArray.mk #[]) ∧
      (((0 : Int) = (0 : Int)) ∧
      (((0 : Int) = (0 : Int)) ∧
      (((0 : Int) = (0 : Int)) ∧
      ((ByteArray.mk #[] = ByteArray.mk #[]) ∧
      (((0 : Int) = (0 : Int)) ∧
      (((0 : Int) = (0 : Int)) ∧
      ((Eq (α := List Value) (gC enF j.2) (gC enF s.2)) ∧
      ((Plain (gC enF j.2)) ∧
      True))))))))))))))))))))))))))))))))))))))))))))))))))))))))
    False)
   (∃ y : List Fl, ((Eq (α := List Fl) (y) (ren1 g.2 g.3)) ∧
   ((g.7 = g.7) ∧
   ((g.8 = g.8) ∧
   (((0 : Nat) = (0 : Nat)) ∧
   (((0 : Nat) = (0 : Nat)) ∧
   (((0 : Nat) = (0 : Nat)) ∧
   (((0 : Nat) = (0 : Nat)) ∧
   ((List.length y = List.length s.2) ∧
   ((Eq (α := List Value) (gC enF g.1) (gC enF g.1)) ∧
   ((Plain (gC enF g.1)) ∧
   ((Eq (α := List Value) (gC enF g.2) (gC enF g.2)) ∧
   ((Plain (gC enF g.2)) ∧
   ((Eq (α := List Value) (gC enF g.3) (gC enF g.3)) ∧
   ((Plain (gC enF g.3)) ∧
   ((g.4.1 = g.4.1) ∧
   ((g.4.2 = g.4.2) ∧
   ((g.4.3 = g.4.3) ∧
   ((g.4.4 = g.4.4) ∧
   (((0 : Nat) = (0 : Nat)) ∧
   ((List.length g.1 = List.length g.1) ∧
   ((g.4.5 = g.4.5) ∧
   ((g.4.6 = g.4.6) ∧
   (((0 : Nat) = (0 : Nat)) ∧
   ((List.length g.2 = List.length g.2) ∧
   ((g.4.7 = g.4.7) ∧
   ((g.4.8 = g.4.8) ∧
   ((g.4.9 = g.4.9) ∧
   ((g.4.10 = g.4.10) ∧
   ((g.5 = g.5) ∧
   (((0 : Nat) = (0 : Nat)) ∧
   ((List.length g.3 = List.length g.3) ∧
   ((g.6 = g.6) ∧
   ((ByteArray.mk #[] = ByteArray.mk #[]) ∧
   ((ByteArray.mk #[] = ByteArray.mk #[]) ∧
   ((ByteArray.mk #[] = ByteArray.mk #[]) ∧
   ((ByteArray.mk #[] = ByteArray.mk #[]) ∧
   (((0 : Int) = (0 : Int)) ∧
   (((0 : Int) = (0 : Int)) ∧
   (((0 : Int) = (0 : Int)) ∧
   ((ByteArray.mk #[] = ByteArray.mk #[]) ∧
   (((0 : Int) = (0 : Int)) ∧
   (((0 : Int) = (0 : Int)) ∧
   ((Eq (α := List Value) (gC enF y) (gC enF s.2)) ∧
   ((Plain (gC enF y)) ∧
   True)))))))))))))))))))))))))))))))))))))))))))))) := by kernel_rfl
theorem Rm_round (g : GRn) (s : StRn) (Inv : StRn → Prop) (m : StRn → Nat) : mev ERn noM 60 12 (0 :: pRm) false (codeOf Try.prog 12 (0 :: pRm)) ⟨mkOv (slRm g s), 79, []⟩ none ⟨mkR (rlRm g s), 6⟩ (roundK 3 6 79 Inv m (slRm g) (rlRm g) (wsRm g) s) =
  (br (decide ((↑s.1 : Int) < (↑(List.length g.3) : Int)))
   (br (decide ((0 : Int) ≤ (↑s.1 : Int) ∧ (↑s.1 : Int) < (↑(List.length g.3) : Int)))
    ((Eq (α := Option Value) ((gC enF g.3)[(0 : Nat) + Int.toNat (↑s.1 : Int) * (2 : Nat)]?) (some (Value.string (cellS (gC enF g.3) ((0 : Nat) + Int.toNat (↑s.1 : Int) * (2 : Nat)))))) ∧
    ((Eq (α := Option Value) ((gC enF g.3)[(0 : Nat) + Int.toNat (↑s.1 : Int) * (2 : Nat) + (1 : Nat)]?) (some (Value.string (cellS (gC enF g.3) ((0 : Nat) + Int.toNat (↑s.1 : Int) * (2 : Nat) + (1 : Nat)))))) ∧
    ((((True ∧ True) ∧ (True ∧ True))) ∧
    (br (!cntS (cellS (gC enF g.3) ((0 : Nat) + Int.toNat (↑s.1 : Int) * (2 : Nat))))
     (br (decide (List.length s.2 + (1 : Nat) ≤ (16777216 : Nat)))
      (br (decide ((0 : Nat) + List.length s.2 * (2 : Nat) ≤ List.length (gC enF s.2)))
       (∃ j : StRn, ((Inv j) ∧
       ((m j < m s) ∧
       ((g.7 = g.7) ∧
       ((g.8 = g.8) ∧
       (((0 : Nat) = (0 : Nat)) ∧
       (((0 : Nat) = (0 : Nat)) ∧
       (((0 : Nat) = (0 : Nat)) ∧
       ((List.length j.2 = List.length s.2 + (1 : Nat)) ∧
       (((0 : Nat) = (0 : Nat)) ∧
       ((List.length g.3 = List.length g.3) ∧
       (((↑(List.length g.3) : Int) = (↑(List.length g.3) : Int)) ∧
       (((↑j.1 : Int) = IntKind.wrap IntKind.i64 ((↑s.1 : Int) + (1 : Int))) ∧
       ((Eq (α := List Value) (gC enF g.1) (gC enF g.1)) ∧
       ((Plain (gC enF g.1)) ∧
       ((Eq (α := List Value) (gC enF g.2) (gC enF g.2)) ∧
       ((Plain (gC enF g.2)) ∧
       ((Eq (α := List Value) (gC enF g.3) (gC enF g.3)) ∧
       ((Plain (gC enF g.3)) ∧
       ((g.4.1 = g.4.1) ∧
       ((g.4.2 = g.4.2) ∧
       ((g.4.3 = g.4.3) ∧
       ((g.4.4 = g.4.4) ∧
       (((0 : Nat) = (0 : Nat)) ∧
       ((List.length g.1 = List.length g.1) ∧
       ((g.4.5 = g.4.5) ∧
       ((g.4.6 = g.4.6) ∧
       (((0 : Nat) = (0 : Nat)) ∧
       ((List.length g.2 = List.length g.2) ∧
       ((g.4.7 = g.4.7) ∧
       ((g.4.8 = g.4.8) ∧
       ((g.4.9 = g.4.9) ∧
       ((g.4.10 = g.4.10) ∧
       ((ByteArray.mk #[] = ByteArray.mk #[]) ∧
       ((ByteArray.mk #[] = ByteArray.mk #[]) ∧
       ((ByteArray.mk #[] = ByteArray.mk #[]) ∧
       ((ByteArray.mk #[] = ByteArray.mk #[]) ∧
       (((0 : Int) = (0 : Int)) ∧
       (((0 : Int) = (0 : Int)) ∧
       (((0 : Int) = (0 : Int)) ∧
       ((ByteArray.mk #[] = ByteArray.mk #[]) ∧
       (((0 : Int) = (0 : Int)) ∧
       (((0 : Int) = (0 : Int)) ∧
       ((Eq (α := List Value) (gC enF j.2) (List.take (List.length s.2 * (2 : Nat)) (List.drop (0 : Nat) (gC enF s.2)) ++ [Value.string (cellS (gC enF g.3) ((0 : Nat) + Int.toNat (↑s.1 : Int) * (2 : Nat))), Value.string (cellS (gC enF g.3) ((0 : Nat) + Int.toNat (↑s.1 : Int) * (2 : Nat) + (1 : Nat)))])) ∧
       ((Plain (gC enF j.2)) ∧
       True)))))))))))))))))))))))))))))))))))))))))))))
       False)
      False)
     (∃ j : StRn, ((Inv j) ∧
     ((m j < m s) ∧
     ((g.7 = g.7) ∧
     ((g.8 = g.8) ∧
     (((0 : Nat) = (0 : Nat)) ∧
     (((0 : Nat) = (0 : Nat)) ∧
     (((0 : Nat) = (0 : Nat)) ∧
     ((List.length j.2 = List.length s.2) ∧
     (((0 : Nat) = (0 : Nat)) ∧
     ((List.length g.3 = List.length g.3) ∧
     (((↑(List.length g.3) : Int) = (↑(List.length g.3) : Int)) ∧
     (((↑j.1 : Int) = IntKind.wrap IntKind.i64 ((↑s.1 : Int) + (1 : Int))) ∧
     ((Eq (α := List Value) (gC enF g.1) (gC enF g.1)) ∧
     ((Plain (gC enF g.1)) ∧
     ((Eq (α := List Value) (gC enF g.2) (gC enF g.2)) ∧
     ((Plain (gC enF g.2)) ∧
     ((Eq (α := List Value) (gC enF g.3) (gC enF g.3)) ∧
     ((Plain (gC enF g.3)) ∧
     ((g.4.1 = g.4.1) ∧
     ((g.4.2 = g.4.2) ∧
     ((g.4.3 = g.4.3) ∧
     ((g.4.4 = g.4.4) ∧
     (((0 : Nat) = (0 : Nat)) ∧
     ((List.length g.1 = List.length g.1) ∧
     ((g.4.5 = g.4.5) ∧
     ((g.4.6 = g.4.6) ∧
     (((0 : Nat) = (0 : Nat)) ∧
     ((List.length g.2 = List.length g.2) ∧
     ((g.4.7 = g.4.7) ∧
     ((g.4.8 = g.4.8) ∧
     ((g.4.9 = g.4.9) ∧
     ((g.4.10 = g.4.10) ∧
     ((ByteArray.mk #[] = ByteArray.mk #[]) ∧
     ((ByteArray.mk #[] = ByteArray.mk #[]) ∧
     ((ByteArray.mk #[] = ByteArray.mk #[]) ∧
     ((ByteArray.mk #[] = ByteArray.mk #[]) ∧
     (((0 : Int) = (0 : Int)) ∧
     (((0 : Int) = (0 : Int)) ∧
     (((0 : Int) = (0 : Int)) ∧
     ((ByteArray.mk #[] = ByteArray.mk #[]) ∧
     (((0 : Int) = (0 : Int)) ∧
     (((0 : Int) = (0 : Int)) ∧
     ((Eq (α := List Value) (gC enF j.2) (gC enF s.2)) ∧
     ((Plain (gC enF j.2)) ∧
     True)))))))))))))))))))))))))))))))))))))))))))))))))
    False)
   (∃ y : List Fl, ((Eq (α := List Fl) (y) (g.9 ++ ren2 g.3)) ∧
   ((g.7 = g.7) ∧
   ((g.8 = g.8) ∧
   (((0 : Nat) = (0 : Nat)) ∧
   (((0 : Nat) = (0 : Nat)) ∧
   (((0 : Nat) = (0 : Nat)) ∧
   ((List.length y = List.length s.2) ∧
   ((Eq (α := List Value) (gC enF g.1) (gC enF g.1)) ∧
   ((Plain (gC enF g.1)) ∧
   ((Eq (α := List Value) (gC enF g.2) (gC enF g.2)) ∧
   ((Plain (gC enF g.2)) ∧
   ((Eq (α := List Value) (gC enF g.3) (gC enF g.3)) ∧
   ((Plain (gC enF g.3)) ∧
   ((g.4.1 = g.4.1) ∧
   ((g.4.2 = g.4.2) ∧
   ((g.4.3 = g.4.3) ∧
   ((g.4.4 = g.4.4) ∧
   (((0 : Nat) = (0 : Nat)) ∧
   ((List.length g.1 = List.length g.1) ∧
   ((g.4.5 = g.4.5) ∧
   ((g.4.6 = g.4.6) ∧
   (((0 : Nat) = (0 : Nat)) ∧
   ((List.length g.2 = List.length g.2) ∧
   ((g.4.7 = g.4.7) ∧
   ((g.4.8 = g.4.8) ∧
   ((g.4.9 = g.4.9) ∧
   ((g.4.10 = g.4.10) ∧
   ((ByteArray.mk #[] = ByteArray.mk #[]) ∧
   ((ByteArray.mk #[] = ByteArray.mk #[]) ∧
   ((ByteArray.mk #[] = ByteArray.mk #[]) ∧
   ((ByteArray.mk #[] = ByteArray.mk #[]) ∧
   (((0 : Int) = (0 : Int)) ∧
   (((0 : Int) = (0 : Int)) ∧
   (((0 : Int) = (0 : Int)) ∧
   ((ByteArray.mk #[] = ByteArray.mk #[]) ∧
   (((0 : Int) = (0 : Int)) ∧
   (((0 : Int) = (0 : Int)) ∧
   ((Eq (α := List Value) (gC enF y) (gC enF s.2)) ∧
   ((Plain (gC enF y)) ∧
   True))))))))))))))))))))))))))))))))))))))))) := by kernel_rfl
theorem Rn_vc (x : EnY) (st k asked came : Int) (d e s o : List Fl) : mcall ERn mRn 60 12 [.agg ⟨enCy x 0 d.length 1 e.length⟩, .agg ⟨rsCy st 2 s.length k⟩, .int .i64 asked, .int .i64 came] ⟨mkR (nums 0 [gRo enF d, gRo enF e, gRo enF s]), 3⟩ (retIs 3 (.agg ⟨enCy ⟨x.m, x.s, x.a, x.p, x.k, x.st, x.k2, x.body, asked, came⟩ 3 d.length 4 o.length⟩) [gRo enF d, gRo enF e, gRo enF s, gOwn enF d, gOwn enF o]) =
  (∃ g : GRn, ((List.length g.2 ≤ (16777000 : Nat) ∧ List.length g.3 ≤ (9223372036854775807 : Nat) ∧ BigW g.3) ∧
  ((g.7 = asked) ∧
  ((g.8 = came) ∧
  (((0 : Nat) = (0 : Nat)) ∧
  (((0 : Nat) = (0 : Nat)) ∧
  (((0 : Nat) = (0 : Nat)) ∧
  (((0 : Nat) = (0 : Nat)) ∧
  (((0 : Nat) = (0 : Nat)) ∧
  ((List.length g.2 = List.length e) ∧
  (((↑(List.length g.2) : Int) = Int.ofNat (List.length e)) ∧
  (((0 : Int) = (0 : Int)) ∧
  ((Eq (α := List Value) (gC enF g.1) (gC enF d)) ∧
  ((Plain (gC enF g.1)) ∧
  ((Eq (α := List Value) (gC enF g.2) (gC enF e)) ∧
  ((Plain (gC enF g.2)) ∧
  ((Eq (α := List Value) (gC enF g.3) (gC enF s)) ∧
  ((Plain (gC enF g.3)) ∧
  ((g.4.1 = x.1) ∧
  ((g.4.2 = x.2) ∧
  ((g.4.3 = x.3) ∧
  ((g.4.4 = x.4) ∧
  (((0 : Nat) = (0 : Nat)) ∧
  ((List.length g.1 = List.length d) ∧
  ((g.4.5 = x.5) ∧
  ((g.4.6 = x.6) ∧
  (((0 : Nat) = (0 : Nat)) ∧
  ((List.length g.2 = List.length e) ∧
  ((g.4.7 = x.7) ∧
  ((g.4.8 = x.8) ∧
  ((g.4.9 = x.9) ∧
  ((g.4.10 = x.10) ∧
  ((g.5 = st) ∧
  (((0 : Nat) = (0 : Nat)) ∧
  ((List.length g.3 = List.length s) ∧
  ((g.6 = k) ∧
  ((ByteArray.mk #[] = ByteArray.mk #[]) ∧
  ((ByteArray.mk #[] = ByteArray.mk #[]) ∧
  ((ByteArray.mk #[] = ByteArray.mk #[]) ∧
  ((ByteArray.mk #[] = ByteArray.mk #[]) ∧
  (((0 : Int) = (0 : Int)) ∧
  (((0 : Int) = (0 : Int)) ∧
  (((0 : Int) = (0 : Int)) ∧
  ((ByteArray.mk #[] = ByteArray.mk #[]) ∧
  (((0 : Int) = (0 : Int)) ∧
  (((0 : Int) = (0 : Int)) ∧
  ((Eq (α := List Value) ([]) ([])) ∧
  (∀ (y : List Fl), ((y = ren1 g.2 g.3) →
  (∃ g2 : GRn, ((List.length g2.9 + List.length g2.3 ≤ (16777000 : Nat)) ∧
  ((g2.7 = g.7) ∧
  ((g2.8 = g.8) ∧
  (((0 : Nat) = (0 : Nat)) ∧
  (((0 : Nat) = (0 : Nat)) ∧
  (((0 : Nat) = (0 : Nat)) ∧
  ((List.length g2.9 = List.length y) ∧
  (((0 : Nat) = (0 : Nat)) ∧
  ((List.length g2.3 = List.length g.3) ∧
  (((↑(List.length g2.3) : Int) = Int.ofNat (List.length g.3)) ∧
  (((↑(0 : Nat) : Int) = (0 : Int)) ∧
  ((Eq (α := List Value) (gC enF g2.1) (gC enF g.1)) ∧
  ((Plain (gC enF g2.1)) ∧
  ((Eq (α := List Value) (gC enF g2.2) (gC enF g.2)) ∧
  ((Plain (gC enF g2.2)) ∧
  ((Eq (α := List Value) (gC enF g2.3) (gC enF g.3)) ∧
  ((Plain (gC enF g2.3)) ∧
  ((g2.4.1 = g.4.1) ∧
  ((g2.4.2 = g.4.2) ∧
  ((g2.4.3 = g.4.3) ∧
  ((g2.4.4 = g.4.4) ∧
  (((0 : Nat) = (0 : Nat)) ∧
  ((List.length g2.1 = List.length g.1) ∧
  ((g2.4.5 = g.4.5) ∧
  ((g2.4.6 = g.4.6) ∧
  (((0 : Nat) = (0 : Nat)) ∧
  ((List.length g2.2 = List.length g.2) ∧
  ((g2.4.7 = g.4.7) ∧
  ((g2.4.8 = g.4.8) ∧
  ((g2.4.9 = g.4.9) ∧
  ((g2.4.10 = g.4.10) ∧
  ((ByteArray.mk #[] = ByteArray.mk #[]) ∧
  ((ByteArray.mk #[] = ByteArray.mk #[]) ∧
  ((ByteArray.mk #[] = ByteArray.mk #[]) ∧
  ((ByteArray.mk #[] = ByteArray.mk #[]) ∧
  (((0 : Int) = (0 : Int)) ∧
  (((0 : Int) = (0 : Int)) ∧
  (((0 : Int) = (0 : Int)) ∧
  ((ByteArray.mk #[] = ByteArray.mk #[]) ∧
  (((0 : Int) = (0 : Int)) ∧
  (((0 : Int) = (0 : Int)) ∧
  ((Eq (α := List Value) (gC enF g2.9) (gC enF y)) ∧
  ((Plain (gC enF g2.9)) ∧
  (∀ (y2 : List Fl), ((y2 = g2.9 ++ ren2 g2.3) →
  (br (decide ((0 : Nat) + List.length g2.1 * (2 : Nat) ≤ List.length (gC enF g2.1)))
   (br (allOne (List.take (List.length g2.1 * (2 : Nat)) (List.drop (0 : Nat) (gC enF g2.1))))
    (br (decide (List.length g2.1 ≤ (16777216 : Nat)))
     ((x.1 = g2.4.1) ∧
     ((x.2 = g2.4.2) ∧
     ((x.3 = g2.4.3) ∧
     ((x.4 = g2.4.4) ∧
     (((0 : Nat) = (0 : Nat)) ∧
     ((List.length d = List.length g2.1) ∧
     ((x.5 = g2.4.5) ∧
     ((x.6 = g2.4.6) ∧
     (((0 : Nat) = (0 : Nat)) ∧
     ((List.length o = List.length y2) ∧
     ((x.7 = g2.4.7) ∧
     ((x.8 = g2.4.8) ∧
     ((asked = g2.7) ∧
     ((came = g2.8) ∧
     ((Eq (α := List Value) (gC enF d) (gC enF g2.1)) ∧
     ((Plain (gC enF d)) ∧
     ((Eq (α := List Value) (gC enF e) (gC enF g2.2)) ∧
     ((Plain (gC enF e)) ∧
     ((Eq (α := List Value) (gC enF s) (gC enF g2.3)) ∧
     ((Plain (gC enF s)) ∧
     ((Eq (α := List Value) (gC enF d) (List.take (List.length g2.1 * (2 : Nat)) (List.drop (0 : Nat) (gC enF g2.1)))) ∧
     ((Plain (gC enF d)) ∧
     ((Eq (α := List Value) (gC enF o) (gC enF y2)) ∧
     ((Plain (gC enF o)) ∧
     True))))))))))))))))))))))))
     False)
    False)
   False)))))))))))))))))))))))))))))))))))))))))))))))))))))))))))))))))))))))))))))))))))))))))))))))) := by kernel_rfl
theorem cc_con (s : ByteArray) : Con Try.prog 33 [.string s] [] (.bool (cntS s)) [] := by
  obtain ⟨s, rfl⟩ : ∃ l, s = bs l := ⟨L s, rfl⟩
  refine con_vc (E := E0) mixed (calls_envN _) (lok_envN _) (M := noM) lm_none (cc_vc s _) ?_
  simp only [ofNat_eq, toNat_cast, Nat.zero_add, Nat.add_zero, Nat.mul_one, List.drop_zero, bCells_len, bCells_drop, bCells_take, bCells_app, bCells_one, bCells_plain, List.length_replicate, List.length_append, List.length_take, List.length_drop, List.take_length, and_true, true_and, and_self, decide_true, List.length_nil, List.length_cons, Nat.sub_zero, dB_mk, dB_ro, List.take_zero]
  unfold cntS cntL
  have q1 : (⟨#[99, 111, 110, 116, 101, 110, 116, 45, 108, 101, 110, 103, 116, 104]⟩ : ByteArray) = bs sCl := rfl
  have q2 : (⟨#[99, 111, 110, 116, 101, 110, 116, 45, 101, 110, 99, 111, 100, 105, 110, 103]⟩ : ByteArray) = bs sCe := rfl
  have q3 : (⟨#[99, 111, 110, 116, 101, 110, 116, 45, 116, 121, 112, 101]⟩ : ByteArray) = bs sCt := rfl
  have q4 : (⟨#[99, 111, 110, 116, 101, 110, 116, 45, 114, 97, 110, 103, 101]⟩ : ByteArray) = bs sCr := rfl
  simp only [q1, q2, q3, q4, strEq_bs, L_bse]
  repeat' refine br_intro (fun _ => ?_) (fun _ => ?_)
  all_goals simp_all
theorem cRn_ok : ∀ f a rows p v news, cRn f a rows = some (p, v, news) → p → Con Try.prog f a rows v (rows ++ news) := by
  intro f a rows p v news h hp
  have e : ∀ l, decF (gRo enF l).cells = l := fun l => decF_gC l
  unfold cRn at h
  split at h <;> simp only [Option.some.injEq, Prod.mk.injEq, reduceCtorEq] at h <;> obtain ⟨rfl, rfl, rfl⟩ := h
  · obtain ⟨⟨l, rfl, rfl⟩, h1, h2⟩ := hp
    simp only [alV, alN, alB, e, List.append_nil] at h2 ⊢
    exact Al_con l (L _) h1 h2
  · exact cc_con _
theorem Rn_piece : PieceOk ERn 3 (12, pRn, specRn) := by
  refine piece_loop mixed (calls_envC cRn_ok) (lok_envC _ _ _) lm_none (n := 60) (by kernel_rfl) (fun _ : GRn => (⟨0, []⟩ : StRn)) (fun g s => s.i ≤ g.e.length ∧ s.acc = ren1 (g.e.take s.i) g.s) (fun g s => g.e.length - s.i) (sl := slRn) (rl := rlRn) (fun g hg => ⟨Nat.zero_le _, rfl⟩) (fun g s hg hi => ?_)
  refine (Rn_round g s _ _).mpr ?_
  obtain ⟨i, acc⟩ := s
  obtain ⟨h1, h2⟩ := hi
  obtain ⟨g1, g2, g3⟩ := hg
  have hm : maxLen = 9223372036854775807 := by unfold maxLen; rfl
  simp only at h1 h2
  subst h2
  have hkl : (ren1 (g.e.take i) g.s).length ≤ i := Nat.le_trans (List.length_filter_le _ _) (by simp; omega)
  simp only [ofNat_eq, toNat_cast, Nat.zero_add, Nat.add_zero, Nat.mul_one, List.drop_zero, bCells_len, bCells_drop, bCells_take, bCells_app, bCells_one, bCells_plain, List.length_replicate, List.length_append, List.length_take, List.length_drop, List.take_length, and_true, true_and, and_self, decide_true, List.length_nil, List.length_cons, Nat.sub_zero, dB_mk, dB_ro, List.take_zero, fPl, fLen, fTake, true_and, and_true, Nat.zero_add, List.drop_zero, Int.toNat_natCast]
  refine br_if (fun h => br_dec (by omega) ?_) (fun h => ⟨_, by rw [List.take_of_length_le (by omega)], rfl, rfl⟩)
  have hi : i < g.e.length := by omega
  obtain ⟨c1, c2, c3, c4⟩ := fGet g.e i hi
  have w := i64_succ (show i < 9223372036854775807 by omega)
  have ht : g.e.take (i + 1) = g.e.take i ++ [g.e[i]] := List.take_succ_eq_append_getElem hi
  have hf : ren1 (g.e.take (i + 1)) g.s = ren1 (g.e.take i) g.s ++ (if stayB g.s g.e[i].n then [g.e[i]] else []) := by
    rw [ht]; unfold ren1; rw [List.filter_append]; congr 1
    by_cases hc : stayB g.s g.e[i].n = true <;> simp [hc]
  have a1 : ∀ (l : List Fl) b o nm, alB ⟨gC enF l, b, o⟩ (bs nm) = (allL l nm).length := fun l b o nm => by unfold alB; simp only; rw [decF_gC, L_bs]
  have a2 : ∀ (l : List Fl) b o nm, alN ⟨gC enF l, b, o⟩ (bs nm) = (allN nm l : Nat) := fun l b o nm => by unfold alN; simp only; rw [decF_gC, L_bs]
  have qa : (⟨#[97, 103, 101]⟩ : ByteArray) = bs sAge := rfl
  simp only [c1, c2, c3, c4, w, true_and, cntS, L_bse, fOne1, gC_app, a1, a2, qa, strEq_bs]
  have g3' := g3 g.e[i].n
  have yes : stayB g.s g.e[i].n = true → ∃ j : StRn, (j.i ≤ g.e.length ∧ j.acc = ren1 (g.e.take j.i) g.s) ∧ g.e.length - j.i < g.e.length - i ∧ j.acc.length = (ren1 (g.e.take i) g.s).length + 1 ∧ (j.i : Int) = ((i + 1 : Nat) : Int) ∧ gC enF j.acc = gC enF (ren1 (g.e.take i) g.s ++ [⟨g.e[i].n, g.e[i].v⟩]) := fun k => ⟨⟨i + 1, ren1 (g.e.take (i + 1)) g.s⟩, ⟨by simp only; omega, rfl⟩, by simp only; omega, by simp only [hf, k]; simp, rfl, by simp only [hf, k]; rfl⟩
  have no : stayB g.s g.e[i].n = false → ∃ j : StRn, (j.i ≤ g.e.length ∧ j.acc = ren1 (g.e.take j.i) g.s) ∧ g.e.length - j.i < g.e.length - i ∧ j.acc.length = (ren1 (g.e.take i) g.s).length ∧ (j.i : Int) = ((i + 1 : Nat) : Int) ∧ gC enF j.acc = gC enF (ren1 (g.e.take i) g.s) := fun k => ⟨⟨i + 1, ren1 (g.e.take (i + 1)) g.s⟩, ⟨by simp only; omega, rfl⟩, by simp only; omega, by simp only [hf, k]; simp, rfl, by simp only [hf, k]; simp⟩
  refine ⟨⟨by omega, isF_mk _ _ rfl, by omega, by omega⟩, br_intro (fun k => br_dec (by omega) (br_dec (by omega) (yes (by simp [stayB, k])))) (fun k => br_intro (fun k2 => ?_) (fun k2 => no ?_))⟩
  · have k2 : allN g.e[i].n g.s = 0 := by
      have k2 : ((allN g.e[i].n g.s : Nat) : Int) = 0 := by simpa using k2
      omega
    refine br_intro (fun k3 => br_dec (by omega) (br_dec (by omega) (yes ?_))) (fun k3 => no ?_)
    · have k3 : g.e[i].n ≠ sAge := by simpa using k3
      simp [stayB, k2, k3]
    · have k3 : g.e[i].n = sAge := by simpa using k3
      unfold stayB; rw [k, k3]; simp
  · have k2 : allN g.e[i].n g.s ≠ 0 := by
      have k2 : ¬ ((allN g.e[i].n g.s : Nat) : Int) = 0 := by simpa using k2
      omega
    simp [stayB, k, k2]
theorem Rm_piece : PieceOk ERn 3 (12, pRm, specRm) := by
  refine piece_loop mixed (calls_envC cRn_ok) (lok_envC _ _ _) lm_none (n := 60) (by kernel_rfl) (fun g : GRn => (⟨0, g.acc⟩ : StRn)) (fun g s => s.i ≤ g.s.length ∧ s.acc = g.acc ++ ren2 (g.s.take s.i)) (fun g s => g.s.length - s.i) (sl := slRm) (rl := rlRm) (fun g hg => ⟨Nat.zero_le _, by simp [ren2]⟩) (fun g s hg hi => ?_)
  refine (Rm_round g s _ _).mpr ?_
  obtain ⟨i, acc⟩ := s
  obtain ⟨h1, h2⟩ := hi
  simp only at h1 h2
  subst h2
  have hg' : g.acc.length + g.s.length ≤ 16777000 := hg
  have hkl : (ren2 (g.s.take i)).length ≤ i := Nat.le_trans (List.length_filter_le _ _) (by simp; omega)
  have hkm : (g.acc ++ ren2 (g.s.take i)).length ≤ g.acc.length + i := by rw [List.length_append]; omega
  simp only [ofNat_eq, toNat_cast, Nat.zero_add, Nat.add_zero, Nat.mul_one, List.drop_zero, bCells_len, bCells_drop, bCells_take, bCells_app, bCells_one, bCells_plain, List.length_replicate, List.length_append, List.length_take, List.length_drop, List.take_length, and_true, true_and, and_self, decide_true, List.length_nil, List.length_cons, Nat.sub_zero, dB_mk, dB_ro, List.take_zero, fPl, fLen, fTake, true_and, and_true, Nat.zero_add, List.drop_zero, Int.toNat_natCast]
  refine br_if (fun h => br_dec (by omega) ?_) (fun h => ⟨g.acc ++ ren2 (g.s.take i), by rw [List.take_of_length_le (by omega)], by simp, by simp⟩)
  have hi : i < g.s.length := by omega
  obtain ⟨c1, c2, c3, c4⟩ := fGet g.s i hi
  have w := i64_succ (show i < 9223372036854775807 by omega)
  have ht : g.s.take (i + 1) = g.s.take i ++ [g.s[i]] := List.take_succ_eq_append_getElem hi
  have hf : ren2 (g.s.take (i + 1)) = ren2 (g.s.take i) ++ (if cntL g.s[i].n then [] else [g.s[i]]) := by
    rw [ht]; unfold ren2; rw [List.filter_append]; congr 1
    by_cases hc : cntL g.s[i].n = true <;> simp [hc]
  simp only [c1, c2, c3, c4, w, true_and, cntS, L_bse, fOne1, gC_app]
  refine br_intro (fun k => br_dec (by omega) (br_dec (by omega) ⟨⟨i + 1, g.acc ++ ren2 (g.s.take (i + 1))⟩, ⟨by simp only; omega, rfl⟩, by simp only; omega, ?_, rfl, ?_⟩)) (fun k => ⟨⟨i + 1, g.acc ++ ren2 (g.s.take (i + 1))⟩, ⟨by simp only; omega, rfl⟩, by simp only; omega, ?_, rfl, ?_⟩)
  · have k : cntL g.s[i].n = false := by simpa using k
    simp only [hf, k]; simp; try omega
  · have k : cntL g.s[i].n = false := by simpa using k
    simp only [hf, k]; simp
    rw [show List.take ((g.acc.length + (ren2 (g.s.take i)).length) * 2) (gC enF (g.acc ++ ren2 (g.s.take i))) = gC enF (g.acc ++ ren2 (g.s.take i)) by rw [← List.length_append]; exact fTake _, gC_app]; simp
  · have k : cntL g.s[i].n = true := by simpa using k
    simp only [hf, k]; simp
  · have k : cntL g.s[i].n = true := by simpa using k
    simp only [hf, k]; simp
theorem Rn_con (x : EnY) (st k asked came : Int) (d e s : List Fl) (h1 : d.length ≤ 16777000) (h2 : e.length + s.length ≤ 16777000) (b : BigW s) :
    Con Try.prog 12 [.agg ⟨enCy x 0 d.length 1 e.length⟩, .agg ⟨rsCy st 2 s.length k⟩, .int .i64 asked, .int .i64 came] [gRo enF d, gRo enF e, gRo enF s] (.agg ⟨enCy ⟨x.m, x.s, x.a, x.p, x.k, x.st, x.k2, x.body, asked, came⟩ 3 d.length 4 (renL e s).length⟩) [gRo enF d, gRo enF e, gRo enF s, gOwn enF d, gOwn enF (renL e s)] := by
  refine con_vc (E := ERn) mixed (calls_envC cRn_ok) (lok_envC _ _ _) (M := mRn) (lm_two Rn_piece Rm_piece) (Rn_vc x st k asked came d e s _) ?_
  have hm : maxLen = 9223372036854775807 := by unfold maxLen; rfl
  simp only [ofNat_eq, toNat_cast, Nat.zero_add, Nat.add_zero, Nat.mul_one, List.drop_zero, bCells_len, bCells_drop, bCells_take, bCells_app, bCells_one, bCells_plain, List.length_replicate, List.length_append, List.length_take, List.length_drop, List.take_length, and_true, true_and, and_self, decide_true, List.length_nil, List.length_cons, Nat.sub_zero, dB_mk, dB_ro, List.take_zero, fPl, fLen, fTake, fOne, true_and, and_true, Nat.zero_add, List.drop_zero]
  refine ⟨⟨d, e, s, x, st, k, asked, came, []⟩, ?_⟩
  simp only [true_and, and_true]
  refine ⟨⟨by omega, by omega, b⟩, fun y hy => ⟨⟨d, e, s, x, st, k, asked, came, y⟩, ?_⟩⟩
  have hy1 : y.length ≤ e.length := by rw [hy]; exact List.length_filter_le _ _
  simp only [true_and, and_true]
  refine ⟨by omega, rfl, fun y2 h3 => br_dec (by omega) (br_b rfl (br_dec (by omega) ?_))⟩
  have e3 : y2 = renL e s := by rw [h3, hy]; rfl
  rw [e3]
  exact ⟨rfl, rfl⟩
end Go.Proofs.Ythkidlkcjohppaa.tk
