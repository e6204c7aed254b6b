/- The law: renewed twice by one response an entry is as renewed once. -/
import Derived.Test.YthkidlkcjohppaaSz9
import Derived.Test.YthkidlkcjohppaaRows
import Derived.Test.YthkidlkcjohppaaLlawMgTells
set_option linter.unusedSimpArgs false
set_option linter.unusedVariables false
namespace Go.Proofs.Ythkidlkcjohppaa.tk
open Go Go.Ev Go.Sy Go.RowKit Go.Proofs.Ythkidlkcjohppaa.gl
def pSl : List Nat := [0, 1, 0, 1, 1]
def slSl (l : List Fl) (i : Nat) : List (Nat × Value) := [(0, .slice (some ⟨0, 0, none⟩) l.length 2), (1, .slice (some ⟨1, 0, none⟩) l.length 2), (5, .int .i64 (i : Nat))]
def rlSl (l : List Fl) : List (Nat × Row) := [(0, gRo enF l), (1, gRo enF l)]
def wsSl (l : List Fl) : List (Gate Unit) := [⟨.exit 0, fun _ => True, fun _ => [], fun _ => rlSl l, 2⟩]
def specSl : Sy.Spec := specOf 2 2 49 (fun l : List Fl => l.length ≤ 16777000 ∧ BigW l) (fun l => slSl l 0) rlSl wsSl
def mSl := mOf [(25, pSl, specSl)]
noncomputable def tSl : List EntM := [eRaAll]
noncomputable abbrev ESl : Env := envT Try.prog tSl
def eSl : EntM := entC 25 fun a r => match a, r with
  | [.slice (some ⟨0, 0, none⟩) n 2, .slice (some ⟨1, 0, none⟩) m 2], [r0, r1] => some (IsF r0 n ∧ IsF r1 m ∧ decF r0.cells = decF r1.cells ∧ n ≤ 16777000 ∧ BigW1 r0, .bool true, [])
  | _, _ => none
noncomputable def tTw : List EntM := [eLg, eRn, eSl, eSaF, eRqE, eMgRuns]
noncomputable abbrev ETw : Env := envT Try.prog tTw
structure GTw where
  d : List Fl
  e : List Fl
  s : List Fl
  x : EnY
  y : EnY
  a : List Fl
  b : List Fl
  c : List Fl
def pTw : List Nat := [0, 1, 0, 1, 1, 1, 1, 1, 1]
def slTw0 (g : GTw) : List (Nat × Value) := [(4, .pointer (some ⟨3, 0, none⟩)), (9, .pointer (some ⟨4, 0, none⟩)), (10, .pointer (some ⟨7, 0, none⟩)), (11, .pointer (some ⟨10, 0, none⟩))]
def slTw (g : GTw) (s : StRn) : List (Nat × Value) := slTw0 g ++ [(12, .slice (some ⟨13, 0, none⟩) s.acc.length 2), (13, .int .i64 (s.i : Nat))]
def rlTw (g : GTw) (s : StRn) : List (Nat × Row) := [(0, gRo enF g.d), (1, gRo enF g.e), (2, gRo enF g.s), (3, ⟨enCy g.x 0 g.d.length 1 g.e.length, false, .cells false⟩), (4, ⟨enCy g.y 5 g.d.length 6 g.a.length, false, .cells false⟩), (5, gOwn enF g.d), (6, gOwn enF g.a), (7, ⟨enCy g.y 8 g.d.length 9 g.b.length, false, .cells false⟩), (9, gOwn enF g.b), (10, ⟨enCy g.y 11 g.d.length 12 g.c.length, false, .cells false⟩), (12, gOwn enF g.c), (13, gOwn enF s.acc)]
def wsTw (g : GTw) : List (Gate (List Fl)) := [⟨.exit 0, fun a => a = noAge g.e, fun a => slTw0 g ++ [(12, .slice (some ⟨13, 0, none⟩) a.length 2)], fun a => rlTw g ⟨0, a⟩, 14⟩]
def specTw : Sy.Spec := specOf 3 14 101 (fun g : GTw => g.e.length ≤ 16777000) (fun g => slTw g ⟨0, []⟩) (fun g => rlTw g ⟨0, []⟩) wsTw
def mTw := mOf [(5, pTw, specTw)]
theorem Sl_round (g : List Fl) (i : Nat) (Inv : Nat → Prop) (m : Nat → Nat) : mev ESl noM 60 25 (0 :: pSl) false (codeOf Try.prog 25 (0 :: pSl)) ⟨mkOv (slSl g i), 49, []⟩ none ⟨mkR (rlSl g), 2⟩ (roundK 2 2 49 Inv m (slSl g) (fun _ => rlSl g) (wsSl g) i) =
  (br (decide ((↑i : Int) < Int.ofNat (List.length g)))
   (br (decide ((0 : Int) ≤ (↑i : Int) ∧ (↑i : Int) < (↑(List.length g) : Int)))
    ((Eq (α := Option Value) ((gC enF g)[(0 : Nat) + Int.toNat (↑i : Int) * (2 : Nat) + (0 : Nat)]?) (some (Value.string (cellS (gC enF g) ((0 : Nat) + Int.toNat (↑i : Int) * (2 : Nat) + (0 : Nat)))))) ∧
    ((((((0 : Nat) + List.length g * (2 : Nat) ≤ List.length (gC enF g) ∧ Plain (List.take (List.length g * (2 : Nat)) (List.drop (0 : Nat) (gC enF g)))) ∧ (True ∧ True)) ∧ ((True ∧ True) ∧ (True ∧ (IsF (Row.mk (List.take (List.length g * (2 : Nat)) (List.drop (0 : Nat) (gC enF g))) true (Ob.cells true)) (List.length g) ∧ (List.length g ≤ (9223372036854775807 : Nat) ∧ alB (Row.mk (List.take (List.length g * (2 : Nat)) (List.drop (0 : Nat) (gC enF g))) true (Ob.cells true)) (cellS (gC enF g) ((0 : Nat) + Int.toNat (↑i : Int) * (2 : Nat) + (0 : Nat))) ≤ (16777216 : Nat))))))) ∧
    (br (decide ((0 : Int) ≤ (↑i : Int) ∧ (↑i : Int) < (↑(List.length g) : Int)))
     ((Eq (α := Option Value) ((gC enF g)[(0 : Nat) + Int.toNat (↑i : Int) * (2 : Nat) + (0 : Nat)]?) (some (Value.string (cellS (gC enF g) ((0 : Nat) + Int.toNat (↑i : Int) * (2 : Nat) + (0 : Nat)))))) ∧
     ((((((0 : Nat) + List.length g * (2 : Nat) ≤ List.length (gC enF g) ∧ Plain (List.take (List.length g * (2 : Nat)) (List.drop (0 : Nat) (gC enF g)))) ∧ (True ∧ True)) ∧ ((True ∧ True) ∧ (True ∧ (IsF (Row.mk (List.take (List.length g * (2 : Nat)) (List.drop (0 : Nat) (gC enF g))) true (Ob.cells true)) (List.length g) ∧ (List.length g ≤ (9223372036854775807 : Nat) ∧ alB (Row.mk (List.take (List.length g * (2 : Nat)) (List.drop (0 : Nat) (gC enF g))) true (Ob.cells true)) (cellS (gC enF g) ((0 : Nat) + Int.toNat (↑i : Int) * (2 : Nat) + (0 : Nat))) ≤ (16777216 : Nat))))))) ∧
     (br (!strEq (alV (Row.mk (List.take (List.length g * (2 : Nat)) (List.drop (0 : Nat) (gC enF g))) true (Ob.cells true)) (cellS (gC enF g) ((0 : Nat) + Int.toNat (↑i : Int) * (2 : Nat) + (0 : Nat)))) (alV (Row.mk (List.take (List.length g * (2 : Nat)) (List.drop (0 : Nat) (gC enF g))) true (Ob.cells true)) (cellS (gC enF g) ((0 : Nat) + Int.toNat (↑i : Int) * (2 : Nat) + (0 : Nat)))))
      False
      (br (alN (Row.mk (List.take (List.length g * (2 : Nat)) (List.drop (0 : Nat) (gC enF g))) true (Ob.cells true)) (cellS (gC enF g) ((0 : Nat) + Int.toNat (↑i : Int) * (2 : Nat) + (0 : Nat))) != alN (Row.mk (List.take (List.length g * (2 : Nat)) (List.drop (0 : Nat) (gC enF g))) true (Ob.cells true)) (cellS (gC enF g) ((0 : Nat) + Int.toNat (↑i : Int) * (2 : Nat) + (0 : Nat))))
       False
       (∃ j : Nat, ((Inv j) ∧
       ((m j < m i) ∧
       (((0 : Nat) = (0 : Nat)) ∧
       ((List.length g = List.length g) ∧
       (((0 : Nat) = (0 : Nat)) ∧
       ((List.length g = List.length g) ∧
       (((↑j : Int) = IntKind.wrap IntKind.i64 ((↑i : Int) + (1 : Int))) ∧
       ((Eq (α := List Value) (gC enF g) (gC enF g)) ∧
       ((Plain (gC enF g)) ∧
       ((Eq (α := List Value) (gC enF g) (gC enF g)) ∧
       ((Plain (gC enF g)) ∧
       True))))))))))))))))
     False)))
    False)
   (∃ y : Unit, ((True) ∧
   ((Eq (α := List Value) (gC enF g) (gC enF g)) ∧
   ((Plain (gC enF g)) ∧
   ((Eq (α := List Value) (gC enF g) (gC enF g)) ∧
   ((Plain (gC enF g)) ∧
   True))))))) := by kernel_rfl
theorem Sl_vc (l : List Fl) : mcall ESl mSl 60 25 [.slice (some ⟨0, 0, none⟩) l.length 2, .slice (some ⟨1, 0, none⟩) l.length 2] ⟨mkR (nums 0 [gRo enF l, gRo enF l]), 2⟩ (retIs 2 (.bool true) [gRo enF l, gRo enF l]) =
  (br (Int.ofNat (List.length l) != Int.ofNat (List.length l))
   ((true = false) ∧
   ((Eq (α := List Value) (gC enF l) (gC enF l)) ∧
   ((Plain (gC enF l)) ∧
   ((Eq (α := List Value) (gC enF l) (gC enF l)) ∧
   ((Plain (gC enF l)) ∧
   True)))))
   (∃ g : List Fl, ((List.length g ≤ (16777000 : Nat) ∧ BigW g) ∧
   (((0 : Nat) = (0 : Nat)) ∧
   ((List.length g = List.length l) ∧
   (((0 : Nat) = (0 : Nat)) ∧
   ((List.length g = List.length l) ∧
   (((0 : Int) = (0 : Int)) ∧
   ((Eq (α := List Value) (gC enF g) (gC enF l)) ∧
   ((Plain (gC enF g)) ∧
   ((Eq (α := List Value) (gC enF g) (gC enF l)) ∧
   ((Plain (gC enF g)) ∧
   (∀ (y : Unit), ((True) →
   ((true = true) ∧
   ((Eq (α := List Value) (gC enF l) (gC enF g)) ∧
   ((Plain (gC enF l)) ∧
   ((Eq (α := List Value) (gC enF l) (gC enF g)) ∧
   ((Plain (gC enF l)) ∧
   True))))))))))))))))))) := by kernel_rfl
theorem Tw_round (g : GTw) (i : StRn) (Inv : StRn → Prop) (m : StRn → Nat) : mev ETw noM 60 5 (0 :: pTw) false (codeOf Try.prog 5 (0 :: pTw)) ⟨mkOv (slTw g i), 101, []⟩ none ⟨mkR (rlTw g i), 14⟩ (roundK 3 14 101 Inv m (slTw g) (rlTw g) (wsTw g) i) =
  (br (decide ((↑i.1 : Int) < Int.ofNat (List.length g.2)))
   (br (decide ((0 : Int) ≤ (↑i.1 : Int) ∧ (↑i.1 : Int) < (↑(List.length g.2) : Int)))
    ((Eq (α := Option Value) ((gC enF g.2)[(0 : Nat) + Int.toNat (↑i.1 : Int) * (2 : Nat) + (0 : Nat)]?) (some (Value.string (cellS (gC enF g.2) ((0 : Nat) + Int.toNat (↑i.1 : Int) * (2 : Nat) + (0 : Nat)))))) ∧
    (br (!strEq (cellS (gC enF g.2) ((0 : Nat) + Int.toNat (↑i.1 : Int) * (2 : Nat) + (0 : Nat))) (ByteArray.mk #[(97 : UInt8), (103 : UInt8), (101 : UInt8)]))
     (br (decide ((0 : Int) ≤ (↑i.1 : Int) ∧ (↑i.1 : Int) < (↑(List.length g.2) : Int)))
      ((Eq (α := Option Value) ((gC enF g.2)[(0 : Nat) + Int.toNat (↑i.1 : Int) * (2 : Nat)]?) (some (Value.string (cellS (gC enF g.2) ((0 : Nat) + Int.toNat (↑i.1 : Int) * (2 : Nat)))))) ∧
      ((Eq (α := Option Value) ((gC enF g.2)[(0 : Nat) + Int.toNat (↑i.1 : Int) * (2 : Nat) + (1 : Nat)]?) (some (Value.string (cellS (gC enF g.2) ((0 : Nat) + Int.toNat (↑i.1 : Int) * (2 : Nat) + (1 : Nat)))))) ∧
      (br (decide (List.length i.2 + (1 : Nat) ≤ (16777216 : Nat)))
       (br (decide ((0 : Nat) + List.length i.2 * (2 : Nat) ≤ List.length (gC enF i.2)))
        (∃ j : StRn, ((Inv j) ∧
        ((m j < m i) ∧
        (((0 : Nat) = (0 : Nat)) ∧
        (((0 : Nat) = (0 : Nat)) ∧
        (((0 : Nat) = (0 : Nat)) ∧
        (((0 : Nat) = (0 : Nat)) ∧
        (((0 : Nat) = (0 : Nat)) ∧
        ((List.length j.2 = List.length i.2 + (1 : Nat)) ∧
        (((↑j.1 : Int) = IntKind.wrap IntKind.i64 ((↑i.1 : Int) + (1 : Int))) ∧
        ((Eq (α := List Value) (gC enF g.1) (gC enF g.1)) ∧
        ((Plain (gC enF g.1)) ∧
        ((Eq (α := List Value) (gC enF g.2) (gC enF g.2)) ∧
        ((Plain (gC enF g.2)) ∧
        ((Eq (α := List Value) (gC enF g.3) (gC enF g.3)) ∧
        ((Plain (gC enF g.3)) ∧
        ((g.4.1 = g.4.1) ∧
        ((g.4.2 = g.4.2) ∧
        ((g.4.3 = g.4.3) ∧
        ((g.4.4 = g.4.4) ∧
        (((0 : Nat) = (0 : Nat)) ∧
        ((List.length g.1 = List.length g.1) ∧
        ((g.4.5 = g.4.5) ∧
        ((g.4.6 = g.4.6) ∧
        (((0 : Nat) = (0 : Nat)) ∧
        ((List.length g.2 = List.length g.2) ∧
        ((g.4.7 = g.4.7) ∧
        ((g.4.8 = g.4.8) ∧
        ((g.4.9 = g.4.9) ∧
        ((g.4.10 = g.4.10) ∧
        ((g.5.1 = g.5.1) ∧
        ((g.5.2 = g.5.2) ∧
        ((g.5.3 = g.5.3) ∧
        ((g.5.4 = g.5.4) ∧
        (((0 : Nat) = (0 : Nat)) ∧
        ((List.length g.1 = List.length g.1) ∧
        ((g.5.5 = g.5.5) ∧
        ((g.5.6 = g.5.6) ∧
        (((0 : Nat) = (0 : Nat)) ∧
        ((List.length g.6 = List.length g.6) ∧
        ((g.5.7 = g.5.7) ∧
        ((g.5.8 = g.5.8) ∧
        ((g.5.9 = g.5.9) ∧
        ((g.5.10 = g.5.10) ∧
        ((Eq (α := List Value) (gC enF g.1) (gC enF g.1)) ∧
        ((Plain (gC enF g.1)) ∧
        ((Eq (α := List Value) (gC enF g.6) (gC enF g.6)) ∧
        ((Plain (gC enF g.6)) ∧
        ((g.5.1 = g.5.1) ∧
        ((g.5.2 = g.5.2) ∧
        ((g.5.3 = g.5.3) ∧
        ((g.5.4 = g.5.4) ∧
        (((0 : Nat) = (0 : Nat)) ∧
        ((List.length g.1 = List.length g.1) ∧
        ((g.5.5 = g.5.5) ∧
        ((g.5.6 = g.5.6) ∧
        (((0 : Nat) = (0 : Nat)) ∧
        ((List.length g.7 = List.length g.7) ∧
        ((g.5.7 = g.5.7) ∧
        ((g.5.8 = g.5.8) ∧
        ((g.5.9 = g.5.9) ∧
        ((g.5.10 = g.5.10) ∧
        ((Eq (α := List Value) (gC enF g.7) (gC enF g.7)) ∧
        ((Plain (gC enF g.7)) ∧
        ((g.5.1 = g.5.1) ∧
        ((g.5.2 = g.5.2) ∧
        ((g.5.3 = g.5.3) ∧
        ((g.5.4 = g.5.4) ∧
        (((0 : Nat) = (0 : Nat)) ∧
        ((List.length g.1 = List.length g.1) ∧
        ((g.5.5 = g.5.5) ∧
        ((g.5.6 = g.5.6) ∧
        (((0 : Nat) = (0 : Nat)) ∧
        ((List.length g.8 = List.length g.8) ∧
        ((g.5.7 = g.5.7) ∧
        ((g.5.8 = g.5.8) ∧
        ((g.5.9 = g.5.9) ∧
        ((g.5.10 = g.5.10) ∧
        ((Eq (α := List Value) (gC enF g.8) (gC enF g.8)) ∧
        ((Plain (gC enF g.8)) ∧
        ((Eq (α := List Value) (gC enF j.2) (List.take (List.length i.2 * (2 : Nat)) (List.drop (0 : Nat) (gC enF i.2)) ++ [Value.string (cellS (gC enF g.2) ((0 : Nat) + Int.toNat (↑i.1 : Int) * (2 : Nat))), Value.string (cellS (gC enF g.2) ((0 : Nat) + Int.toNat (↑i.1 : Int) * (2 : Nat) + (1 : Nat)))])) ∧
        ((Plain (gC enF j.2)) ∧
        True))))))))))))))))))))))))))))))))))))))))))))))))))))))))))))))))))))))))))))))))))
        False)
       False)))
      False)
     (∃ j : StRn, ((Inv j) ∧
     ((m j < m i) ∧
     (((0 : Nat) = (0 : Nat)) ∧
     (((0 : Nat) = (0 : Nat)) ∧
     (((0 : Nat) = (0 : Nat)) ∧
     (((0 : Nat) = (0 : Nat)) ∧
     (((0 : Nat) = (0 : Nat)) ∧
     ((List.length j.2 = List.length i.2) ∧
     (((↑j.1 : Int) = IntKind.wrap IntKind.i64 ((↑i.1 : Int) + (1 : Int))) ∧
     ((Eq (α := List Value) (gC enF g.1) (gC enF g.1)) ∧
     ((Plain (gC enF g.1)) ∧
     ((Eq (α := List Value) (gC enF g.2) (gC enF g.2)) ∧
     ((Plain (gC enF g.2)) ∧
     ((Eq (α := List Value) (gC enF g.3) (gC enF g.3)) ∧
     ((Plain (gC enF g.3)) ∧
     ((g.4.1 = g.4.1) ∧
     ((g.4.2 = g.4.2) ∧
     ((g.4.3 = g.4.3) ∧
     ((g.4.4 = g.4.4) ∧
     (((0 : Nat) = (0 : Nat)) ∧
     ((List.length g.1 = List.length g.1) ∧
     ((g.4.5 = g.4.5) ∧
     ((g.4.6 = g.4.6) ∧
     (((0 : Nat) = (0 : Nat)) ∧
     ((List.length g.2 = List.length g.2) ∧
     ((g.4.7 = g.4.7) ∧
     ((g.4.8 = g.4.8) ∧
     ((g.4.9 = g.4.9) ∧
     ((g.4.10 = g.4.10) ∧
     ((g.5.1 = g.5.1) ∧
     ((g.5.2 = g.5.2) ∧
     ((g.5.3 = g.5.3) ∧
     ((g.5.4 = g.5.4) ∧
     (((0 : Nat) = (0 : Nat)) ∧
     ((List.length g.1 = List.length g.1) ∧
     ((g.5.5 = g.5.5) ∧
     ((g.5.6 = g.5.6) ∧
     (((0 : Nat) = (0 : Nat)) ∧
     ((List.length g.6 = List.length g.6) ∧
     ((g.5.7 = g.5.7) ∧
     ((g.5.8 = g.5.8) ∧
     ((g.5.9 = g.5.9) ∧
     ((g.5.10 = g.5.10) ∧
     ((Eq (α := List Value) (gC enF g.1) (gC enF g.1)) ∧
     ((Plain (gC enF g.1)) ∧
     ((Eq (α := List Value) (gC enF g.6) (gC enF g.6)) ∧
     ((Plain (gC enF g.6)) ∧
     ((g.5.1 = g.5.1) ∧
     ((g.5.2 = g.5.2) ∧
     ((g.5.3 = g.5.3) ∧
     ((g.5.4 = g.5.4) ∧
     (((0 : Nat) = (0 : Nat)) ∧
     ((List.length g.1 = List.length g.1) ∧
     ((g.5.5 = g.5.5) ∧
     ((g.5.6 = g.5.6) ∧
     (((0 : Nat) = (0 : Nat)) ∧
     ((List.length g.7 = List.length g.7) ∧
     ((g.5.7 = g.5.7) ∧
     ((g.5.8 = g.5.8) ∧
     ((g.5.9 = g.5.9) ∧
     ((g.5.10 = g.5.10) ∧
     ((Eq (α := List Value) (gC enF g.7) (gC enF g.7)) ∧
     ((Plain (gC enF g.7)) ∧
     ((g.5.1 = g.5.1) ∧
     ((g.5.2 = g.5.2) ∧
     ((g.5.3 = g.5.3) ∧
     ((g.5.4 = g.5.4) ∧
     (((0 : Nat) = (0 : Nat)) ∧
     ((List.length g.1 = List.length g.1) ∧
     ((g.5.5 = g.5.5) ∧
     ((g.5.6 = g.5.6) ∧
     (((0 : Nat) = (0 : Nat)) ∧
     ((List.length g.8 = List.length g.8) ∧
     ((g.5.7 = g.5.7) ∧
     ((g.5.8 = g.5.8) ∧
     ((g.5.9 = g.5.9) ∧
     ((g.5.10 = g.5.10) ∧
     ((Eq (α := List Value) (gC enF g.8) (gC enF g.8)) ∧
     ((Plain (gC enF g.8)) ∧
     ((Eq (α := List Value) (gC enF j.2) (gC enF i.2)) ∧
     ((Plain (gC enF j.2)) ∧
     True))))))))))))))))))))))))))))))))))))))))))))))))))))))))))))))))))))))))))))))))))))
    False)
   (∃ y : List Fl, ((Eq (α := List Fl) (y) (noAge g.2)) ∧
   (((0 : Nat) = (0 : Nat)) ∧
   (((0 : Nat) = (0 : Nat)) ∧
   (((0 : Nat) = (0 : Nat)) ∧
   (((0 : Nat) = (0 : Nat)) ∧
   (((0 : Nat) = (0 : Nat)) ∧
   ((List.length y = List.length i.2) ∧
   ((Eq (α := List Value) (gC enF g.1) (gC enF g.1)) ∧
   ((Plain (gC enF g.1)) ∧
   ((Eq (α := List Value) (gC enF g.2) (gC enF g.2)) ∧
   ((Plain (gC enF g.2)) ∧
   ((Eq (α := List Value) (gC enF g.3) (gC enF g.3)) ∧
   ((Plain (gC enF g.3)) ∧
   ((g.4.1 = g.4.1) ∧
   ((g.4.2 = g.4.2) ∧
   ((g.4.3 = g.4.3) ∧
   ((g.4.4 = g.4.4) ∧
   (((0 : Nat) = (0 : Nat)) ∧
   ((List.length g.1 = List.length g.1) ∧
   ((g.4.5 = g.4.5) ∧
   ((g.4.6 = g.4.6) ∧
   (((0 : Nat) = (0 : Nat)) ∧
   ((List.length g.2 = List.length g.2) ∧
   ((g.4.7 = g.4.7) ∧
   ((g.4.8 = g.4.8) ∧
   ((g.4.9 = g.4.9) ∧
   ((g.4.10 = g.4.10) ∧
   ((g.5.1 = g.5.1) ∧
   ((g.5.2 = g.5.2) ∧
   ((g.5.3 = g.5.3) ∧
   ((g.5.4 = g.5.4) ∧
   (((0 : Nat) = (0 : Nat)) ∧
   ((List.length g.1 = List.length g.1) ∧
   ((g.5.5 = g.5.5) ∧
   ((g.5.6 = g.5.6) ∧
   (((0 : Nat) = (0 : Nat)) ∧
   ((List.length g.6 = List.length g.6) ∧
   ((g.5.7 = g.5.7) ∧
   ((g.5.8 = g.5.8) ∧
   ((g.5.9 = g.5.9) ∧
   ((g.5.10 = g.5.10) ∧
   ((Eq (α := List Value) (gC enF g.1) (gC enF g.1)) ∧
   ((Plain (gC enF g.1)) ∧
   ((Eq (α := List Value) (gC enF g.6) (gC enF g.6)) ∧
   ((Plain (gC enF g.6)) ∧
   ((g.5.1 = g.5.1) ∧
   ((g.5.2 = g.5.2) ∧
   ((g.5.3 = g.5.3) ∧
   ((g.5.4 = g.5.4) ∧
   (((0 : Nat) = (0 : Nat)) ∧
   ((List.length g.1 = List.length g.1) ∧
   ((g.5.5 = g.5.5) ∧
   ((g.5.6 = g.5.6) ∧
   (((0 : Nat) = (0 : Nat)) ∧
   ((List.length g.7 = List.length g.7) ∧
   ((g.5.7 = g.5.7) ∧
   ((g.5.8 = g.5.8) ∧
   ((g.5.9 = g.5.9) ∧
   ((g.5.10 = g.5.10) ∧
   ((Eq (α := List Value) (gC enF g.7) (gC enF g.7)) ∧
   ((Plain (gC enF g.7)) ∧
   ((g.5.1 = g.5.1) ∧
   ((g.5.2 = g.5.2) ∧
   ((g.5.3 = g.5.3) ∧
   ((g.5.4 = g.5.4) ∧
   (((0 : Nat) = (0 : Nat)) ∧
   ((List.length g.1 = List.length g.1) ∧
   ((g.5.5 = g.5.5) ∧
   ((g.5.6 = g.5.6) ∧
   (((0 : Nat) = (0 : Nat)) ∧
   ((List.length g.8 = List.length g.8) ∧
   ((g.5.7 = g.5.7) ∧
   ((g.5.8 = g.5.8) ∧
   ((g.5.9 = g.5.9) ∧
   ((g.5.10 = g.5.10) ∧
   ((Eq (α := List Value) (gC enF g.8) (gC enF g.8)) ∧
   ((Plain (gC enF g.8)) ∧
   ((Eq (α := List Value) (gC enF y) (gC enF i.2)) ∧
   ((Plain (gC enF y)) ∧
   True))))))))))))))))))))))))))))))))))))))))))))))))))))))))))))))))))))))))))))))))) := by kernel_rfl
theorem Tw_vc (x : EnY) (st k asked came : Int) (d e s : List Fl) : mcall ETw mTw 60 5 [.agg ⟨enCy x 0 d.length 1 e.length⟩, .agg ⟨rsCy st 2 s.length k⟩, .int .i64 asked, .int .i64 came] ⟨mkR (nums 0 [gRo enF d, gRo enF e, gRo enF s]), 3⟩ (retIs 3 (.bool true) [gRo enF d, gRo enF e, gRo enF s]) =
  ((((((0 : Nat) + List.length d * (2 : Nat) ≤ List.length (gC enF d) ∧ Plain (List.take (List.length d * (2 : Nat)) (List.drop (0 : Nat) (gC enF d)))) ∧ True) ∧ ((True ∧ True) ∧ (True ∧ (IsF (Row.mk (List.take (List.length d * (2 : Nat)) (List.drop (0 : Nat) (gC enF d))) true (Ob.cells true)) (List.length d) ∧ (List.length d ≤ (1048576 : Nat) ∧ ShR (Row.mk (List.take (List.length d * (2 : Nat)) (List.drop (0 : Nat) (gC enF d))) true (Ob.cells true)))))))) ∧
  (br (lgR (Row.mk (List.take (List.length d * (2 : Nat)) (List.drop (0 : Nat) (gC enF d))) true (Ob.cells true)))
   ((((((0 : Nat) + List.length e * (2 : Nat) ≤ List.length (gC enF e) ∧ Plain (List.take (List.length e * (2 : Nat)) (List.drop (0 : Nat) (gC enF e)))) ∧ True) ∧ ((True ∧ True) ∧ (True ∧ (IsF (Row.mk (List.take (List.length e * (2 : Nat)) (List.drop (0 : Nat) (gC enF e))) true (Ob.cells true)) (List.length e) ∧ (List.length e ≤ (1048576 : Nat) ∧ ShR (Row.mk (List.take (List.length e * (2 : Nat)) (List.drop (0 : Nat) (gC enF e))) true (Ob.cells true)))))))) ∧
   (br (lgR (Row.mk (List.take (List.length e * (2 : Nat)) (List.drop (0 : Nat) (gC enF e))) true (Ob.cells true)))
    (br (decide (Int.ofNat (List.length x.8.1.1) ≤ (2000 : Int)))
     ((((True ∧ True) ∧ ((True ∧ True) ∧ (True ∧ (IsF (Row.mk [] true (Ob.cells true)) (0 : Nat) ∧ ((0 : Nat) ≤ (1048576 : Nat) ∧ ShR (Row.mk [] true (Ob.cells true)))))))) ∧
     ((((((0 : Nat) + List.length s * (2 : Nat) ≤ List.length (gC enF s) ∧ Plain (List.take (List.length s * (2 : Nat)) (List.drop (0 : Nat) (gC enF s)))) ∧ True) ∧ ((True ∧ True) ∧ (True ∧ (IsF (Row.mk (List.take (List.length s * (2 : Nat)) (List.drop (0 : Nat) (gC enF s))) true (Ob.cells true)) (List.length s) ∧ (List.length s ≤ (1048576 : Nat) ∧ ShR (Row.mk (List.take (List.length s * (2 : Nat)) (List.drop (0 : Nat) (gC enF s))) true (Ob.cells true)))))))) ∧
     (br (!lgR (Row.mk (List.take (List.length s * (2 : Nat)) (List.drop (0 : Nat) (gC enF s))) true (Ob.cells true)))
      (((True ∧ (True ∧ (True ∧ True)))) ∧
      ((true = true) ∧
      ((Eq (α := List Value) (gC enF d) (gC enF d)) ∧
      ((Plain (gC enF d)) ∧
      ((Eq (α := List Value) (gC enF e) (gC enF e)) ∧
      ((Plain (gC enF e)) ∧
      ((Eq (α := List Value) (gC enF s) (gC enF s)) ∧
      ((Plain (gC enF s)) ∧
      True))))))))
      (((((True ∧ (True ∧ (True ∧ (True ∧ (((0 : Nat) + List.length d * (2 : Nat) ≤ List.length (gC enF d) ∧ Plain (List.take (List.length d * (2 : Nat)) (List.drop (0 : Nat) (gC enF d)))) ∧ (True ∧ (True ∧ (((0 : Nat) + List.length e * (2 : Nat) ≤ List.length (gC enF e) ∧ Plain (List.take (List.length e * (2 : Nat)) (List.drop (0 : Nat) (gC enF e)))) ∧ (True ∧ (True ∧ (True ∧ (True ∧ True)))))))))))) ∧ ((True ∧ (((0 : Nat) + List.length s * (2 : Nat) ≤ List.length (gC enF s) ∧ Plain (List.take (List.length s * (2 : Nat)) (List.drop (0 : Nat) (gC enF s)))) ∧ (True ∧ True))) ∧ (True ∧ (True ∧ True)))) ∧ ((True ∧ (True ∧ (True ∧ True))) ∧ ((Plain (dC (Row.mk (List.take (List.length d * (2 : Nat)) (List.drop (0 : Nat) (gC enF d))) true (Ob.cells true))) ∧ (Plain (rnC (Row.mk (List.take (List.length e * (2 : Nat)) (List.drop (0 : Nat) (gC enF e))) true (Ob.cells true)) (Row.mk (List.take (List.length s * (2 : Nat)) (List.drop (0 : Nat) (gC enF s))) true (Ob.cells true))) ∧ True)) ∧ (IsF (Row.mk (List.take (List.length d * (2 : Nat)) (List.drop (0 : Nat) (gC enF d))) true (Ob.cells true)) (List.length d) ∧ (IsF (Row.mk (List.take (List.length e * (2 : Nat)) (List.drop (0 : Nat) (gC enF e))) true (Ob.cells true)) (List.length e) ∧ (IsF (Row.mk (List.take (List.length s * (2 : Nat)) (List.drop (0 : Nat) (gC enF s))) true (Ob.cells true)) (List.length s) ∧ (List.length d ≤ (16777000 : Nat) ∧ (List.length e + List.length s ≤ (16777000 : Nat) ∧ BigW1 (Row.mk (List.take (List.length s * (2 : Nat)) (List.drop (0 : Nat) (gC enF s))) true (Ob.cells true))))))))))) ∧
      (((((True ∧ (True ∧ (True ∧ (True ∧ (((0 : Nat) + dN (Row.mk (List.take (List.length d * (2 : Nat)) (List.drop (0 : Nat) (gC enF d))) true (Ob.cells true)) * (2 : Nat) ≤ List.length (dC (Row.mk (List.take (List.length d * (2 : Nat)) (List.drop (0 : Nat) (gC enF d))) true (Ob.cells true))) ∧ Plain (List.take (dN (Row.mk (List.take (List.length d * (2 : Nat)) (List.drop (0 : Nat) (gC enF d))) true (Ob.cells true)) * (2 : Nat)) (List.drop (0 : Nat) (dC (Row.mk (List.take (List.length d * (2 : Nat)) (List.drop (0 : Nat) (gC enF d))) true (Ob.cells true)))))) ∧ (True ∧ (True ∧ (((0 : Nat) + rnN (Row.mk (List.take (List.length e * (2 : Nat)) (List.drop (0 : Nat) (gC enF e))) true (Ob.cells true)) (Row.mk (List.take (List.length s * (2 : Nat)) (List.drop (0 : Nat) (gC enF s))) true (Ob.cells true)) * (2 : Nat) ≤ List.length (rnC (Row.mk (List.take (List.length e * (2 : Nat)) (List.drop (0 : Nat) (gC enF e))) true (Ob.cells true)) (Row.mk (List.take (List.length s * (2 : Nat)) (List.drop (0 : Nat) (gC enF s))) true (Ob.cells true))) ∧ Plain (List.take (rnN (Row.mk (List.take (List.length e * (2 : Nat)) (List.drop (0 : Nat) (gC enF e))) true (Ob.cells true)) (Row.mk (List.take (List.length s * (2 : Nat)) (List.drop (0 : Nat) (gC enF s))) true (Ob.cells true)) * (2 : Nat)) (List.drop (0 : Nat) (rnC (Row.mk (List.take (List.length e * (2 : Nat)) (List.drop (0 : Nat) (gC enF e))) true (Ob.cells true)) (Row.mk (List.take (List.length s * (2 : Nat)) (List.drop (0 : Nat) (gC enF s))) true (Ob.cells true)))))) ∧ (True ∧ (True ∧ (True ∧ (True ∧ True)))))))))))) ∧ ((True ∧ (((0 : Nat) + List.length s * (2 : Nat) ≤ List.length (gC enF s) ∧ Plain (List.take (List.length s * (2 : Nat)) (List.drop (0 : Nat) (gC enF s)))) ∧ (True ∧ True))) ∧ (True ∧ (True ∧ True)))) ∧ ((True ∧ (True ∧ (True ∧ True))) ∧ ((Plain (dC (Row.mk (List.take (dN (Row.mk (List.take (List.length d * (2 : Nat)) (List.drop (0 : Nat) (gC enF d))) true (Ob.cells true)) * (2 : Nat)) (List.drop (0 : Nat) (dC (Row.mk (List.take (List.length d * (2 : Nat)) (List.drop (0 : Nat) (gC enF d))) true (Ob.cells true))))) true (Ob.cells true))) ∧ (Plain (rnC (Row.mk (List.take (rnN (Row.mk (List.take (List.length e * (2 : Nat)) (List.drop (0 : Nat) (gC enF e))) true (Ob.cells true)) (Row.mk (List.take (List.length s * (2 : Nat)) (List.drop (0 : Nat) (gC enF s))) true (Ob.cells true)) * (2 : Nat)) (List.drop (0 : Nat) (rnC (Row.mk (List.take (List.length e * (2 : Nat)) (List.drop (0 : Nat) (gC enF e))) true (Ob.cells true)) (Row.mk (List.take (List.length s * (2 : Nat)) (List.drop (0 : Nat) (gC enF s))) true (Ob.cells true))))) true (Ob.cells true)) (Row.mk (List.take (List.length s * (2 : Nat)) (List.drop (0 : Nat) (gC enF s))) true (Ob.cells true))) ∧ True)) ∧ (IsF (Row.mk (List.take (dN (Row.mk (List.take (List.length d * (2 : Nat)) (List.drop (0 : Nat) (gC enF d))) true (Ob.cells true)) * (2 : Nat)) (List.drop (0 : Nat) (dC (Row.mk (List.take (List.length d * (2 : Nat)) (List.drop (0 : Nat) (gC enF d))) true (Ob.cells true))))) true (Ob.cells true)) (dN (Row.mk (List.take (List.length d * (2 : Nat)) (List.drop (0 : Nat) (gC enF d))) true (Ob.cells true))) ∧ (IsF (Row.mk (List.take (rnN (Row.mk (List.take (List.length e * (2 : Nat)) (List.drop (0 : Nat) (gC enF e))) true (Ob.cells true)) (Row.mk (List.take (List.length s * (2 : Nat)) (List.drop (0 : Nat) (gC enF s))) true (Ob.cells true)) * (2 : Nat)) (List.drop (0 : Nat) (rnC (Row.mk (List.take (List.length e * (2 : Nat)) (List.drop (0 : Nat) (gC enF e))) true (Ob.cells true)) (Row.mk (List.take (List.length s * (2 : Nat)) (List.drop (0 : Nat) (gC enF s))) true (Ob.cells true))))) true (Ob.cells true)) (rnN (Row.mk (List.take (List.length e * (2 : Nat)) (List.drop (0 : Nat) (gC enF e))) true (Ob.cells true)) (Row.mk (List.take (List.length s * (2 : Nat)) (List.drop (0 : Nat) (gC enF s))) true (Ob.cells true))) ∧ (IsF (Row.mk (List.take (List.length s * (2 : Nat)) (List.drop (0 : Nat) (gC enF s))) true (Ob.cells true)) (List.length s) ∧ (dN (Row.mk (List.take (List.length d * (2 : Nat)) (List.drop (0 : Nat) (gC enF d))) true (Ob.cells true)) ≤ (16777000 : Nat) ∧ (rnN (Row.mk (List.take (List.length e * (2 : Nat)) (List.drop (0 : Nat) (gC enF e))) true (Ob.cells true)) (Row.mk (List.take (List.length s * (2 : Nat)) (List.drop (0 : Nat) (gC enF s))) true (Ob.cells true)) + List.length s ≤ (16777000 : Nat) ∧ BigW1 (Row.mk (List.take (List.length s * (2 : Nat)) (List.drop (0 : Nat) (gC enF s))) true (Ob.cells true))))))))))) ∧
      (((((True ∧ (True ∧ (True ∧ (True ∧ (((0 : Nat) + List.length d * (2 : Nat) ≤ List.length (gC enF d) ∧ Plain (List.take (List.length d * (2 : Nat)) (List.drop (0 : Nat) (gC enF d)))) ∧ (True ∧ (True ∧ (((0 : Nat) + List.length e * (2 : Nat) ≤ List.length (gC enF e) ∧ Plain (List.take (List.length e * (2 : Nat)) (List.drop (0 : Nat) (gC enF e)))) ∧ (True ∧ (True ∧ (True ∧ (True ∧ True)))))))))))) ∧ ((True ∧ (True ∧ (True ∧ True))) ∧ (True ∧ (True ∧ True)))) ∧ ((True ∧ (True ∧ (True ∧ True))) ∧ ((Plain (dC (Row.mk (List.take (List.length d * (2 : Nat)) (List.drop (0 : Nat) (gC enF d))) true (Ob.cells true))) ∧ (Plain (rnC (Row.mk (List.take (List.length e * (2 : Nat)) (List.drop (0 : Nat) (gC enF e))) true (Ob.cells true)) (Row.mk [] true (Ob.cells true))) ∧ True)) ∧ (IsF (Row.mk (List.take (List.length d * (2 : Nat)) (List.drop (0 : Nat) (gC enF d))) true (Ob.cells true)) (List.length d) ∧ (IsF (Row.mk (List.take (List.length e * (2 : Nat)) (List.drop (0 : Nat) (gC enF e))) true (Ob.cells true)) (List.length e) ∧ (IsF (Row.mk [] true (Ob.cells true)) (0 : Nat) ∧ (List.length d ≤ (16777000 : Nat) ∧ (List.length e + (0 : Nat) ≤ (16777000 : Nat) ∧ BigW1 (Row.mk [] true (Ob.cells true))))))))))) ∧
      (∃ g : GTw, ((List.length g.2 ≤ (16777000 : Nat)) ∧
      (((0 : Nat) = (0 : Nat)) ∧
      (((0 : Nat) = (0 : Nat)) ∧
      (((0 : Nat) = (0 : Nat)) ∧
      (((0 : Nat) = (0 : Nat)) ∧
      (((0 : Nat) = (0 : Nat)) ∧
      (((0 : Int) = (0 : Int)) ∧
      ((Eq (α := List Value) (gC enF g.1) (gC enF d)) ∧
      ((Plain (gC enF g.1)) ∧
      ((Eq (α := List Value) (gC enF g.2) (gC enF e)) ∧
      ((Plain (gC enF g.2)) ∧
      ((Eq (α := List Value) (gC enF g.3) (gC enF s)) ∧
      ((Plain (gC enF g.3)) ∧
      ((g.4.1 = x.1) ∧
      ((g.4.2 = x.2) ∧
      ((g.4.3 = x.3) ∧
      ((g.4.4 = x.4) ∧
      (((0 : Nat) = (0 : Nat)) ∧
      ((List.length g.1 = List.length d) ∧
      ((g.4.5 = x.5) ∧
      ((g.4.6 = x.6) ∧
      (((0 : Nat) = (0 : Nat)) ∧
      ((List.length g.2 = List.length e) ∧
      ((g.4.7 = x.7) ∧
      ((g.4.8 = x.8) ∧
      ((g.4.9 = x.9) ∧
      ((g.4.10 = x.10) ∧
      ((g.5.1 = x.1) ∧
      ((g.5.2 = x.2) ∧
      ((g.5.3 = x.3) ∧
      ((g.5.4 = x.4) ∧
      (((0 : Nat) = (0 : Nat)) ∧
      ((List.length g.1 = dN (Row.mk (List.take (List.length d * (2 : Nat)) (List.drop (0 : Nat) (gC enF d))) true (Ob.cells true))) ∧
      ((g.5.5 = x.5) ∧
      ((g.5.6 = x.6) ∧
      (((0 : Nat) = (0 : Nat)) ∧
      ((List.length g.6 = rnN (Row.mk (List.take (List.length e * (2 : Nat)) (List.drop (0 : Nat) (gC enF e))) true (Ob.cells true)) (Row.mk (List.take (List.length s * (2 : Nat)) (List.drop (0 : Nat) (gC enF s))) true (Ob.cells true))) ∧
      ((g.5.7 = x.7) ∧
      ((g.5.8 = x.8) ∧
      ((g.5.9 = asked) ∧
      ((g.5.10 = came) ∧
      ((Eq (α := List Value) (gC enF g.1) (dC (Row.mk (List.take (List.length d * (2 : Nat)) (List.drop (0 : Nat) (gC enF d))) true (Ob.cells true)))) ∧
      ((Plain (gC enF g.1)) ∧
      ((Eq (α := List Value) (gC enF g.6) (rnC (Row.mk (List.take (List.length e * (2 : Nat)) (List.drop (0 : Nat) (gC enF e))) true (Ob.cells true)) (Row.mk (List.take (List.length s * (2 : Nat)) (List.drop (0 : Nat) (gC enF s))) true (Ob.cells true)))) ∧
      ((Plain (gC enF g.6)) ∧
      ((g.5.1 = x.1) ∧
      ((g.5.2 = x.2) ∧
      ((g.5.3 = x.3) ∧
      ((g.5.4 = x.4) ∧
      (((0 : Nat) = (0 : Nat)) ∧
      ((List.length g.1 = dN (Row.mk (List.take (dN (Row.mk (List.take (List.length d * (2 : Nat)) (List.drop (0 : Nat) (gC enF d))) true (Ob.cells true)) * (2 : Nat)) (List.drop (0 : Nat) (dC (Row.mk (List.take (List.length d * (2 : Nat)) (List.drop (0 : Nat) (gC enF d))) true (Ob.cells true))))) true (Ob.cells true))) ∧
      ((g.5.5 = x.5) ∧
      ((g.5.6 = x.6) ∧
      (((0 : Nat) = (0 : Nat)) ∧
      ((List.length g.7 = rnN (Row.mk (List.take (rnN (Row.mk (List.take (List.length e * (2 : Nat)) (List.drop (0 : Nat) (gC enF e))) true (Ob.cells true)) (Row.mk (List.take (List.length s * (2 : Nat)) (List.drop (0 : Nat) (gC enF s))) true (Ob.cells true)) * (2 : Nat)) (List.drop (0 : Nat) (rnC (Row.mk (List.take (List.length e * (2 : Nat)) (List.drop (0 : Nat) (gC enF e))) true (Ob.cells true)) (Row.mk (List.take (List.length s * (2 : Nat)) (List.drop (0 : Nat) (gC enF s))) true (Ob.cells true))))) true (Ob.cells true)) (Row.mk (List.take (List.length s * (2 : Nat)) (List.drop (0 : Nat) (gC enF s))) true (Ob.cells true))) ∧
      ((g.5.7 = x.7) ∧
      ((g.5.8 = x.8) ∧
      ((g.5.9 = asked) ∧
      ((g.5.10 = came) ∧
      ((Eq (α := List Value) (gC enF g.7) (rnC (Row.mk (List.take (rnN (Row.mk (List.take (List.length e * (2 : Nat)) (List.drop (0 : Nat) (gC enF e))) true (Ob.cells true)) (Row.mk (List.take (List.length s * (2 : Nat)) (List.drop (0 : Nat) (gC enF s))) true (Ob.cells true)) * (2 : Nat)) (List.drop (0 : Nat) (rnC (Row.mk (List.take (List.length e * (2 : Nat)) (List.drop (0 : Nat) (gC enF e))) true (Ob.cells true)) (Row.mk (List.take (List.length s * (2 : Nat)) (List.drop (0 : Nat) (gC enF s))) true (Ob.cells true))))) true (Ob.cells true)) (Row.mk (List.take (List.length s * (2 : Nat)) (List.drop (0 : Nat) (gC enF s))) true (Ob.cells true)))) ∧
      ((Plain (gC enF g.7)) ∧
      ((g.5.1 = x.1) ∧
      ((g.5.2 = x.2) ∧
      ((g.5.3 = x.3) ∧
      ((g.5.4 = x.4) ∧
      (((0 : Nat) = (0 : Nat)) ∧
      ((List.length g.1 = dN (Row.mk (List.take (List.length d * (2 : Nat)) (List.drop (0 : Nat) (gC enF d))) true (Ob.cells true))) ∧
      ((g.5.5 = x.5) ∧
      ((g.5.6 = x.6) ∧
      (((0 : Nat) = (0 : Nat)) ∧
      ((List.length g.8 = rnN (Row.mk (List.take (List.length e * (2 : Nat)) (List.drop (0 : Nat) (gC enF e))) true (Ob.cells true)) (Row.mk [] true (Ob.cells true))) ∧
      ((g.5.7 = x.7) ∧
      ((g.5.8 = x.8) ∧
      ((g.5.9 = asked) ∧
      ((g.5.10 = came) ∧
      ((Eq (α := List Value) (gC enF g.8) (rnC (Row.mk (List.take (List.length e * (2 : Nat)) (List.drop (0 : Nat) (gC enF e))) true (Ob.cells true)) (Row.mk [] true (Ob.cells true)))) ∧
      ((Plain (gC enF g.8)) ∧
      ((Eq (α := List Value) ([]) ([])) ∧
      (∀ (y : List Fl), ((y = noAge g.2) →
      ((((((0 : Nat) + List.length g.6 * (2 : Nat) ≤ List.length (gC enF g.6) ∧ Plain (List.take (List.length g.6 * (2 : Nat)) (List.drop (0 : Nat) (gC enF g.6)))) ∧ (((0 : Nat) + List.length g.7 * (2 : Nat) ≤ List.length (gC enF g.7) ∧ Plain (List.take (List.length g.7 * (2 : Nat)) (List.drop (0 : Nat) (gC enF g.7)))) ∧ True)) ∧ ((True ∧ (True ∧ True)) ∧ (True ∧ (IsF (Row.mk (List.take (List.length g.6 * (2 : Nat)) (List.drop (0 : Nat) (gC enF g.6))) true (Ob.cells true)) (List.length g.6) ∧ (IsF (Row.mk (List.take (List.length g.7 * (2 : Nat)) (List.drop (0 : Nat) (gC enF g.7))) true (Ob.cells true)) (List.length g.7) ∧ (Eq (α := List Fl) (decF (List.take (List.length g.6 * (2 : Nat)) (List.drop (0 : Nat) (gC enF g.6)))) (decF (List.take (List.length g.7 * (2 : Nat)) (List.drop (0 : Nat) (gC enF g.7)))) ∧ (List.length g.6 ≤ (16777000 : Nat) ∧ BigW1 (Row.mk (List.take (List.length g.6 * (2 : Nat)) (List.drop (0 : Nat) (gC enF g.6))) true (Ob.cells true)))))))))) ∧
      ((((((0 : Nat) + List.length g.8 * (2 : Nat) ≤ List.length (gC enF g.8) ∧ Plain (List.take (List.length g.8 * (2 : Nat)) (List.drop (0 : Nat) (gC enF g.8)))) ∧ (((0 : Nat) + List.length y * (2 : Nat) ≤ List.length (gC enF y) ∧ Plain (List.take (List.length y * (2 : Nat)) (List.drop (0 : Nat) (gC enF y)))) ∧ True)) ∧ ((True ∧ (True ∧ True)) ∧ (True ∧ (IsF (Row.mk (List.take (List.length g.8 * (2 : Nat)) (List.drop (0 : Nat) (gC enF g.8))) true (Ob.cells true)) (List.length g.8) ∧ (IsF (Row.mk (List.take (List.length y * (2 : Nat)) (List.drop (0 : Nat) (gC enF y))) true (Ob.cells true)) (List.length y) ∧ List.length g.8 ≤ (9223372036854775807 : Nat))))))) ∧
      (br (saB (Row.mk (List.take (List.length g.8 * (2 : Nat)) (List.drop (0 : Nat) (gC enF g.8))) true (Ob.cells true)) (Row.mk (List.take (List.length y * (2 : Nat)) (List.drop (0 : Nat) (gC enF y))) true (Ob.cells true)))
       (br (strEq g.5.8 g.4.8)
        (br (g.5.6 == g.4.6)
         (((((True ∧ (True ∧ (True ∧ (True ∧ (((0 : Nat) + List.length g.1 * (2 : Nat) ≤ List.length (gC enF g.1) ∧ Plain (List.take (List.length g.1 * (2 : Nat)) (List.drop (0 : Nat) (gC enF g.1)))) ∧ (True ∧ True)))))) ∧ ((True ∧ (True ∧ (True ∧ (True ∧ (((0 : Nat) + List.length g.1 * (2 : Nat) ≤ List.length (gC enF g.1) ∧ Plain (List.take (List.length g.1 * (2 : Nat)) (List.drop (0 : Nat) (gC enF g.1)))) ∧ (True ∧ True)))))) ∧ True)) ∧ ((True ∧ (True ∧ True)) ∧ (True ∧ (IsF (Row.mk (List.take (List.length g.1 * (2 : Nat)) (List.drop (0 : Nat) (gC enF g.1))) true (Ob.cells true)) (List.length g.1) ∧ (IsF (Row.mk (List.take (List.length g.1 * (2 : Nat)) (List.drop (0 : Nat) (gC enF g.1))) true (Ob.cells true)) (List.length g.1) ∧ List.length g.1 ≤ (9223372036854775807 : Nat))))))) ∧
         (br (rqE (RqY.mk (EnY.m (GTw.y g)) (EnY.s (GTw.y g)) (EnY.a (GTw.y g)) (EnY.p (GTw.y g)) (EnY.k (GTw.y g))) (RqY.mk (EnY.m (GTw.x g)) (EnY.s (GTw.x g)) (EnY.a (GTw.x g)) (EnY.p (GTw.x g)) (EnY.k (GTw.x g))) (Row.mk (List.take (List.length g.1 * (2 : Nat)) (List.drop (0 : Nat) (gC enF g.1))) true (Ob.cells true)) (Row.mk (List.take (List.length g.1 * (2 : Nat)) (List.drop (0 : Nat) (gC enF g.1))) true (Ob.cells true)))
          (((True ∧ (True ∧ (True ∧ True)))) ∧
          ((true = true) ∧
          ((Eq (α := List Value) (gC enF d) (gC enF g.1)) ∧
          ((Plain (gC enF d)) ∧
          ((Eq (α := List Value) (gC enF e) (gC enF g.2)) ∧
          ((Plain (gC enF e)) ∧
          ((Eq (α := List Value) (gC enF s) (gC enF g.3)) ∧
          ((Plain (gC enF s)) ∧
          True))))))))
          ((true = false) ∧
          ((Eq (α := List Value) (gC enF d) (gC enF g.1)) ∧
          ((Plain (gC enF d)) ∧
          ((Eq (α := List Value) (gC enF e) (gC enF g.2)) ∧
          ((Plain (gC enF e)) ∧
          ((Eq (α := List Value) (gC enF s) (gC enF g.3)) ∧
          ((Plain (gC enF s)) ∧
          True)))))))))
         ((true = false) ∧
         ((Eq (α := List Value) (gC enF d) (gC enF g.1)) ∧
         ((Plain (gC enF d)) ∧
         ((Eq (α := List Value) (gC enF e) (gC enF g.2)) ∧
         ((Plain (gC enF e)) ∧
         ((Eq (α := List Value) (gC enF s) (gC enF g.3)) ∧
         ((Plain (gC enF s)) ∧
         True))))))))
        ((true = false) ∧
        ((Eq (α := List Value) (gC enF d) (gC enF g.1)) ∧
        ((Plain (gC enF d)) ∧
        ((Eq (α := List Value) (gC enF e) (gC enF g.2)) ∧
        ((Plain (gC enF e)) ∧
        ((Eq (α := List Value) (gC enF s) (gC enF g.3)) ∧
        ((Plain (gC enF s)) ∧
        True))))))))
       ((true = false) ∧
       ((Eq (α := List Value) (gC enF d) (gC enF g.1)) ∧
       ((Plain (gC enF d)) ∧
       ((Eq (α := List Value) (gC enF e) (gC enF g.2)) ∧
       ((Plain (gC enF e)) ∧
       ((Eq (α := List Value) (gC enF s) (gC enF g.3)) ∧
       ((Plain (gC enF s)) ∧
       True)))))))))))))))))))))))))))))))))))))))))))))))))))))))))))))))))))))))))))))))))))))))))))))))))
     (((True ∧ (True ∧ (True ∧ True)))) ∧
     ((true = true) ∧
     ((Eq (α := List Value) (gC enF d) (gC enF d)) ∧
     ((Plain (gC enF d)) ∧
     ((Eq (α := List Value) (gC enF e) (gC enF e)) ∧
     ((Plain (gC enF e)) ∧
     ((Eq (α := List Value) (gC enF s) (gC enF s)) ∧
     ((Plain (gC enF s)) ∧
     True)))))))))
    (((True ∧ (True ∧ (True ∧ True)))) ∧
    ((true = true) ∧
    ((Eq (α := List Value) (gC enF d) (gC enF d)) ∧
    ((Plain (gC enF d)) ∧
    ((Eq (α := List Value) (gC enF e) (gC enF e)) ∧
    ((Plain (gC enF e)) ∧
    ((Eq (α := List Value) (gC enF s) (gC enF s)) ∧
    ((Plain (gC enF s)) ∧
    True))))))))))
   (((True ∧ (True ∧ (True ∧ True)))) ∧
   ((true = true) ∧
   ((Eq (α := List Value) (gC enF d) (gC enF d)) ∧
   ((Plain (gC enF d)) ∧
   ((Eq (α := List Value) (gC enF e) (gC enF e)) ∧
   ((Plain (gC enF e)) ∧
   ((Eq (α := List Value) (gC enF s) (gC enF s)) ∧
   ((Plain (gC enF s)) ∧
   True)))))))))) := by kernel_rfl
theorem tSl_ok : ∀ x ∈ tSl, EntOk Try.prog x := all_cons eRaAll_ok all_nil
theorem Sl_piece : PieceOk ESl 2 (25, pSl, specSl) := by
  refine piece_loop mixed (calls_envT tSl_ok) (lok_envT _ _) lm_none (n := 60) (by kernel_rfl) (fun _ : List Fl => (0 : Nat)) (fun g i => i ≤ g.length) (fun g i => g.length - i) (sl := slSl) (rl := fun g _ => rlSl g) (fun g hg => Nat.zero_le _) (fun g i hg hi => ?_)
  refine (Sl_round g i _ _).mpr ?_
  obtain ⟨g1, g2⟩ := hg
  have hm : maxLen = 9223372036854775807 := by unfold maxLen; rfl
  simp only [ofNat_eq, toNat_cast, Nat.zero_add, Nat.add_zero, Nat.mul_one, List.drop_zero, bCells_len, bCells_drop, bCells_take, bCells_app, bCells_one, bCells_plain, List.length_replicate, List.length_append, List.length_take, List.length_drop, List.take_length, and_true, true_and, and_self, decide_true, List.length_nil, List.length_cons, Nat.sub_zero, dB_mk, dB_ro, List.take_zero, fPl, fLen, fTake, hm]
  refine br_if (fun h => br_dec (by omega) ?_) (fun h => ⟨(), trivial⟩)
  have hi : i < g.length := by omega
  obtain ⟨c1, c2, c3, c4⟩ := fGet g i hi
  have w := i64_succ (show i < 9223372036854775807 by omega)
  have b := g2 g[i].n
  simp only [c1, c3, w, n_alB, n_alN, n_alV, isF_eq, true_and, strEq_me, Nat.le_refl]
  refine ⟨⟨by omega, by omega⟩, br_dec (by omega) ⟨⟨by omega, by omega⟩, ?_⟩⟩
  simp only [Bool.not_true, br_ff0, bne_self_eq_false]
  exact ⟨i + 1, by omega, by omega, rfl⟩
theorem Sl_con (l : List Fl) (h1 : l.length ≤ 16777000) (b : BigW l) : Con Try.prog 25 [.slice (some ⟨0, 0, none⟩) l.length 2, .slice (some ⟨1, 0, none⟩) l.length 2] [gRo enF l, gRo enF l] (.bool true) [gRo enF l, gRo enF l] := by
  refine con_vc (E := ESl) mixed (calls_envT tSl_ok) (lok_envT _ _) (M := mSl) (lm_one Sl_piece) (Sl_vc l) ?_
  simp only [ofNat_eq, toNat_cast, Nat.zero_add, Nat.add_zero, Nat.mul_one, List.drop_zero, bCells_len, bCells_drop, bCells_take, bCells_app, bCells_one, bCells_plain, List.length_replicate, List.length_append, List.length_take, List.length_drop, List.take_length, and_true, true_and, and_self, decide_true, List.length_nil, List.length_cons, Nat.sub_zero, dB_mk, dB_ro, List.take_zero, fPl, fLen]
  simp only [bne_self_eq_false, br_ff0]
  exact ⟨l, ⟨h1, b⟩, rfl, rfl, rfl, rfl, fun _ _ => rfl⟩
theorem eSl_ok : EntOk Try.prog eSl := entC_ok (by
  intro a rows p v news h hp
  split at h <;> simp only [Option.some.injEq, Prod.mk.injEq, reduceCtorEq] at h
  obtain ⟨rfl, rfl, rfl⟩ := h
  obtain ⟨⟨l, rfl, rfl⟩, ⟨l2, rfl, rfl⟩, e, h1, h2⟩ := hp
  simp only [dF, BigW1, List.append_nil] at e h2 ⊢
  subst e
  exact Sl_con l h1 h2)
theorem tTw_ok : ∀ x ∈ tTw, EntOk Try.prog x := all_cons eLg_ok (all_cons eRn_ok (all_cons eSl_ok (all_cons eSaF_ok (all_cons eRqE_ok (all_cons eMgRuns_ok all_nil)))))
theorem Tw_piece : PieceOk ETw 3 (5, pTw, specTw) := by
  refine piece_loop mixed (calls_envT tTw_ok) (lok_envT _ _) lm_none (n := 60) (by kernel_rfl) (fun _ : GTw => (⟨0, []⟩ : StRn)) (fun g s => s.i ≤ g.e.length ∧ s.acc = noAge (g.e.take s.i)) (fun g s => g.e.length - s.i) (sl := slTw) (rl := rlTw) (fun g hg => ⟨Nat.zero_le _, rfl⟩) (fun g s hg hi => ?_)
  refine (Tw_round g s _ _).mpr ?_
  obtain ⟨i, acc⟩ := s
  obtain ⟨h1, h2⟩ := hi
  simp only at h1 h2
  subst h2
  have hg' : g.e.length ≤ 16777000 := hg
  have hkl : (noAge (g.e.take i)).length ≤ i := Nat.le_trans (List.length_filter_le _ _) (by simp; omega)
  simp only [ofNat_eq, toNat_cast, Nat.zero_add, Nat.add_zero, Nat.mul_one, List.drop_zero, bCells_len, bCells_drop, bCells_take, bCells_app, bCells_one, bCells_plain, List.length_replicate, List.length_append, List.length_take, List.length_drop, List.take_length, and_true, true_and, and_self, decide_true, List.length_nil, List.length_cons, Nat.sub_zero, dB_mk, dB_ro, List.take_zero, fPl, fLen, fTake, true_and, and_true, Nat.zero_add, List.drop_zero, Int.toNat_natCast]
  refine br_if (fun h => br_dec (by omega) ?_) (fun h => ⟨_, by rw [List.take_of_length_le (by omega)], rfl, rfl⟩)
  have hi : i < g.e.length := by omega
  obtain ⟨c1, c2, c3, c4⟩ := fGet g.e i hi
  have w := i64_succ (show i < 9223372036854775807 by omega)
  have ht : g.e.take (i + 1) = g.e.take i ++ [g.e[i]] := List.take_succ_eq_append_getElem hi
  have hf : noAge (g.e.take (i + 1)) = noAge (g.e.take i) ++ (if g.e[i].n = sAge then [] else [g.e[i]]) := by
    rw [ht]; unfold noAge; rw [List.filter_append]; congr 1
    by_cases hc : g.e[i].n = sAge <;> simp [hc]
  have qa : (⟨#[97, 103, 101]⟩ : ByteArray) = bs sAge := rfl
  simp only [c1, c2, c3, c4, w, true_and, qa, strEq_bs, fOne1, gC_app]
  refine br_intro (fun k => br_dec (by omega) (br_dec (by omega) (br_dec (by omega) ⟨⟨i + 1, noAge (g.e.take (i + 1))⟩, ⟨by simp only; omega, rfl⟩, by simp only; omega, ?_, rfl, ?_⟩))) (fun k => ⟨⟨i + 1, noAge (g.e.take (i + 1))⟩, ⟨by simp only; omega, rfl⟩, by simp only; omega, ?_, rfl, ?_⟩)
  · have k : ¬ g.e[i].n = sAge := by simpa using k
    simp only [hf, k]; simp
  · have k : ¬ g.e[i].n = sAge := by simpa using k
    simp only [hf, k]; simp
  · have k : g.e[i].n = sAge := by simpa using k
    simp only [hf, k]; simp
  · have k : g.e[i].n = sAge := by simpa using k
    simp only [hf, k]; simp
theorem allN_pos {f : Fl} {s : List Fl} (h : f ∈ s) : allN f.n s ≠ 0 := fun e => by
  unfold allN at e
  have := List.length_eq_zero_iff.1 e
  have h3 : f ∈ s.filter (fun g => g.n = f.n) := List.mem_filter.2 ⟨h, by simp⟩
  rw [this] at h3; simp at h3
theorem ren_twice (e s : List Fl) : renL (renL e s) s = renL e s := by
  have e1 : ren1 (renL e s) s = ren1 e s := by
    unfold renL
    rw [show ren1 (ren1 e s ++ ren2 s) s = ren1 (ren1 e s) s ++ ren1 (ren2 s) s by unfold ren1; rw [List.filter_append]]
    have h1 : ren1 (ren1 e s) s = ren1 e s := by unfold ren1; rw [List.filter_filter]; simp
    have h2 : ren1 (ren2 s) s = [] := by
      unfold ren1 ren2
      rw [List.filter_filter, List.filter_eq_nil_iff]
      intro f hf
      have := allN_pos hf
      unfold stayB
      simp [this]
    rw [h1, h2, List.append_nil]
  show ren1 (renL e s) s ++ ren2 s = ren1 e s ++ ren2 s
  rw [e1]
theorem ren_nil (e : List Fl) : renL e [] = noAge e := by
  unfold renL ren1 ren2 noAge
  simp only [List.filter_nil, List.append_nil]
  refine List.filter_congr fun f _ => ?_
  unfold stayB
  have hc : cntL sAge = false := by decide
  by_cases h : f.n = sAge
  · rw [h, hc]; simp
  · simp [h, allN]
theorem lgN_fil (p : Fl → Bool) : ∀ l : List Fl, lgN (l.filter p) ≤ lgN l
  | [] => Nat.le_refl _
  | f :: l => by
    have := lgN_fil p l
    rw [List.filter_cons]
    split
    · rw [lgN, lgN]; omega
    · rw [lgN]; omega
set_option maxHeartbeats 2000000 in
theorem mg_twice (em es ea ep : ByteArray) (d : List Fl) (ek st : Int) (e : List Fl) (k2 : Int) (body : ByteArray) (asked0 came0 : Int) (rs : Int) (s : List Fl) (rk asked came : Int)
    (_ : em.size ≤ 1048576) (_ : es.size ≤ 1048576) (_ : ea.size ≤ 1048576) (_ : ep.size ≤ 1048576) (hd : d.length ≤ 1048576) (hd2 : ∀ f ∈ d, f.n.length ≤ 1048576 ∧ f.v.length ≤ 1048576) (_ : I64 ek) (_ : I64 st) (he : e.length ≤ 1048576) (he2 : ∀ f ∈ e, f.n.length ≤ 1048576 ∧ f.v.length ≤ 1048576) (_ : I64 k2) (hb : body.size ≤ 1048576) (_ : I64 asked0) (_ : I64 came0)
    (_ : I64 rs) (hs : s.length ≤ 1048576) (hs2 : ∀ f ∈ s, f.n.length ≤ 1048576 ∧ f.v.length ≤ 1048576) (_ : I64 rk) (_ : I64 asked) (_ : I64 came) :
    Con Try.prog 5 [.agg ⟨enCy ⟨em, es, ea, ep, ek, st, k2, body, asked0, came0⟩ 0 d.length 1 e.length⟩, .agg ⟨rsCy rs 2 s.length rk⟩, .int .i64 asked, .int .i64 came] [gRo enF d, gRo enF e, gRo enF s] (.bool true) [gRo enF d, gRo enF e, gRo enF s] := by
  have hm : maxLen = 9223372036854775807 := by unfold maxLen; rfl
  have sd : ShortF d := hd2
  have se : ShortF e := he2
  have ss : ShortF s := hs2
  have e0 : (⟨[], true, .cells true⟩ : Row) = ⟨gC enF [], true, .cells true⟩ := rfl
  have i0 : IsF ⟨gC enF [], true, .cells true⟩ 0 = True := isF_eq []
  have l0 : lgB [] = true := rfl
  have s0 : ShortF [] := fun f h => by simp at h
  refine con_vc (E := ETw) mixed (calls_envT tTw_ok) (lok_envT _ _) (M := mTw) (lm_one Tw_piece) (Tw_vc _ rs rk asked came d e s) ?_
  simp only [ofNat_eq, toNat_cast, Nat.zero_add, Nat.add_zero, Nat.mul_one, List.drop_zero, bCells_len, bCells_drop, bCells_take, bCells_app, bCells_one, bCells_plain, List.length_replicate, List.length_append, List.length_take, List.length_drop, List.take_length, and_true, true_and, and_self, decide_true, List.length_nil, List.length_cons, Nat.sub_zero, dB_mk, dB_ro, List.take_zero, bs_dd, fTake, fPl, fLen, and_true, true_and, e0, i0, n_rnN, n_rnC, n_dN, n_dC, n_big, n_lg, n_sh, tkF, isF_eq, gPl, rqE, saB_mk, sameSe_self, strEq_me, hm, sd, se, ss, Nat.le_refl, beq_self_eq_true, Bool.and_self, Bool.not_true, ren_twice, ren_nil, l0, s0]
  refine ⟨by omega, br_intro (fun ld => ⟨by omega, br_intro (fun le => br_intro (fun lb => ⟨by omega, by omega, br_intro (fun _ => trivial) (fun ls => ?_)⟩) (fun _ => trivial)) (fun _ => trivial)⟩) (fun _ => trivial)⟩
  obtain ⟨d1, d2, d3⟩ := light_big ld
  obtain ⟨e1, e2, e3⟩ := light_big le
  obtain ⟨s1, s2, s3⟩ := light_big (show lgB s = true by simpa using ls)
  have hml : (renL e s).length ≤ e.length + s.length := by
    unfold renL; rw [List.length_append]
    have a1 : (ren1 e s).length ≤ e.length := List.length_filter_le _ _
    have a2 : (ren2 s).length ≤ s.length := List.length_filter_le _ _
    omega
  have hln : lgN (renL e s) ≤ lgN e + lgN s := by
    unfold renL ren1 ren2; rw [lgN_app]
    have := lgN_fil (fun f => stayB s f.n) e
    have := lgN_fil (fun f => !cntL f.n) s
    omega
  have hbig : BigW (renL e s) := fun x => by have := allL_le (renL e s) x; omega
  refine ⟨⟨by omega, by omega, s3⟩, ⟨by omega, by omega, s3⟩, ⟨by omega, by omega, fun x => Nat.zero_le _⟩, ⟨d, e, s, ⟨em, es, ea, ep, ek, st, k2, body, asked0, came0⟩, ⟨em, es, ea, ep, ek, st, k2, body, asked, came⟩, renL e s, renL e s, noAge e⟩, ?_⟩
  simp only [true_and]
  refine ⟨by omega, fun y hy => ?_⟩
  subst hy
  have hna : (noAge e).length ≤ e.length := List.length_filter_le _ _
  refine ⟨⟨by omega, hbig⟩, by omega, br_b (sameSe_self _) (br_b (strEq_me _) (br_b (by simp) ⟨by omega, br_b (by simp [strEq_me]) trivial⟩))⟩
end Go.Proofs.Ythkidlkcjohppaa.tk
