/- The law: what an entry is asked by is answered by itself as unchanged. -/
import Derived.Test.YthkidlkcjohppaaSz9
import Derived.Test.YthkidlkcjohppaaRows
import Derived.Test.YthkidlkcjohppaaLlawMgTags
import Derived.Test.YthkidlkcjohppaaLmgAsk
import Derived.Test.YthkidlkcjohppaaLrtAll
import Derived.Test.YthkidlkcjohppaaLlgtK
set_option linter.unusedSimpArgs false
set_option linter.unusedVariables false
namespace Go.Proofs.Ythkidlkcjohppaa.tk
open Go Go.Ev Go.Sy Go.RowKit Go.Proofs.Ythkidlkcjohppaa.gl
def asN (r1 r2 : Row) : Nat := (askL (decF r1.cells) (decF r2.cells)).length
def asC (r1 r2 : Row) : List Value := gC enF (askL (decF r1.cells) (decF r2.cells))
def asB (r1 : Row) : Bool := askB (decF r1.cells)
def cAk : FuncId → List Value → List Row → Option (Prop × Value × List Row)
  | 9, [.agg ⟨[.string em, .string es, .string ea, .string ep, .slice (some ⟨0, 0, none⟩) n0 2, .int .i64 ek, .int .i64 st, .slice (some ⟨1, 0, none⟩) n1 2, .int .i64 k2, .string body, .int .i64 asked, .int .i64 came]⟩, .agg ⟨[.string qm, .string qs, .string qa, .string qp, .slice (some ⟨2, 0, none⟩) n2 2, .int .i64 qk]⟩], [r0, r1, r2] => some (IsF r0 n0 ∧ IsF r1 n1 ∧ IsF r2 n2 ∧ n0 ≤ maxLen ∧ n1 ≤ maxLen ∧ n2 ≤ 16777000 ∧ BigW1 r1, .tuple #[.agg ⟨[.string qm, .string qs, .string qa, .string qp, .slice (some ⟨3, 0, none⟩) (asN r1 r2) 2, .int .i64 qk]⟩, .bool (asB r1)], [⟨asC r1 r2, false, .cells true⟩])
  | 27, [.slice (some ⟨0, 0, none⟩) n 2, .string s], [r0] => some (IsF r0 n ∧ n ≤ maxLen ∧ alB r0 s ≤ 16777216, .tuple #[.string (alV r0 s), .int .i64 (alN r0 s)], [])
  | 26, [.slice (some ⟨0, 0, none⟩) n 2], [r0] => some (IsF r0 n ∧ n ≤ 1048576 ∧ ShR r0, .bool (lgR r0), [])
  | f, a, rows => cTg f a rows
def kAk (f : FuncId) : Bool := Nat.beq f 9 || Nat.beq f 27 || Nat.beq f 26 || kTg f
noncomputable abbrev EAk : Env := envC Try.prog cAk kAk
structure GAk where
  a : List UInt8
  w : Bool
  y : RqY
  q : List Fl
def pAk : List Nat := [0, 1, 0, 1, 1]
def slAk0 (g : GAk) : List (Nat × Value) := [(0, .string (bs g.a)), (1, .bool g.w), (6, .pointer (some ⟨1, 0, none⟩))]
def slAk (g : GAk) (i : Nat) : List (Nat × Value) := [(0, .string (bs g.a)), (1, .bool g.w), (6, .pointer (some ⟨1, 0, none⟩)), (9, .int .i64 (i : Nat))]
def rlAk (g : GAk) : List (Nat × Row) := [(0, gRo enF g.q), (1, ⟨rqCy g.y 0 g.q.length, false, .cells false⟩)]
def wsAk (g : GAk) : List (Gate Unit) := [⟨.exit 0, fun _ => tgL g.a = true, fun _ => slAk0 g, fun _ => rlAk g, 2⟩, ⟨.ret, fun _ => True, fun _ => [(8, .bool true)], fun _ => [(0, gRo enF g.q)], 1⟩]
def specAk : Sy.Spec := specOf 1 2 117 (fun g : GAk => g.a.length ≤ 60) (fun g => slAk g 0) rlAk wsAk
def mAk := mOf [(6, pAk, specAk)]
theorem Ak_round (g : GAk) (i : Nat) (Inv : Nat → Prop) (m : Nat → Nat) : mev EAk noM 60 6 (0 :: pAk) false (codeOf Try.prog 6 (0 :: pAk)) ⟨mkOv (slAk g i), 117, []⟩ none ⟨mkR (rlAk g), 2⟩ (roundK 1 2 117 Inv m (slAk g) (fun _ => rlAk g) (wsAk g) i) =
  (br (decide ((↑i : Int) < Int.ofNat (List.length (Array.toList (ByteArray.data (bs g.1))))))
   (br (decide ((0 : Int) ≤ (↑i : Int) ∧ (↑i : Int) < (↑(List.length (Array.toList (ByteArray.data (bs g.1)))) : Int)))
    (br (decide (byteAt (bs g.1) (Int.toNat (↑i : Int)) < (33 : Int)))
     (((True ∧ (True ∧ True))) ∧
     (∃ y : Unit, ((True) ∧
     ((true = true) ∧
     ((Eq (α := List Value) (gC enF g.4) (gC enF g.4)) ∧
     ((Plain (gC enF g.4)) ∧
     True))))))
     (br (decide ((0 : Int) ≤ (↑i : Int) ∧ (↑i : Int) < (↑(List.length (Array.toList (ByteArray.data (bs g.1)))) : Int)))
      (br (decide (byteAt (bs g.1) (Int.toNat (↑i : Int)) > (126 : Int)))
       (((True ∧ (True ∧ True))) ∧
       (∃ y : Unit, ((True) ∧
       ((true = true) ∧
       ((Eq (α := List Value) (gC enF g.4) (gC enF g.4)) ∧
       ((Plain (gC enF g.4)) ∧
       True))))))
       (br (decide ((0 : Int) ≤ (↑i : Int) ∧ (↑i : Int) < (↑(List.length (Array.toList (ByteArray.data (bs g.1)))) : Int)))
        (br (byteAt (bs g.1) (Int.toNat (↑i : Int)) == (34 : Int))
         (((True ∧ (True ∧ True))) ∧
         (∃ y : Unit, ((True) ∧
         ((true = true) ∧
         ((Eq (α := List Value) (gC enF g.4) (gC enF g.4)) ∧
         ((Plain (gC enF g.4)) ∧
         True))))))
         (br (decide ((0 : Int) ≤ (↑i : Int) ∧ (↑i : Int) < (↑(List.length (Array.toList (ByteArray.data (bs g.1)))) : Int)))
          (br (byteAt (bs g.1) (Int.toNat (↑i : Int)) == (92 : Int))
           (((True ∧ (True ∧ True))) ∧
           (∃ y : Unit, ((True) ∧
           ((true = true) ∧
           ((Eq (α := List Value) (gC enF g.4) (gC enF g.4)) ∧
           ((Plain (gC enF g.4)) ∧
           True))))))
           (∃ j : Nat, ((Inv j) ∧
           ((m j < m i) ∧
           ((bs g.1 = bs g.1) ∧
           ((g.2 = g.2) ∧
           (((0 : Nat) = (0 : Nat)) ∧
           (((↑j : Int) = IntKind.wrap IntKind.i64 ((↑i : Int) + (1 : Int))) ∧
           ((Eq (α := List Value) (gC enF g.4) (gC enF g.4)) ∧
           ((Plain (gC enF g.4)) ∧
           ((g.3.1 = g.3.1) ∧
           ((g.3.2 = g.3.2) ∧
           ((g.3.3 = g.3.3) ∧
           ((g.3.4 = g.3.4) ∧
           (((0 : Nat) = (0 : Nat)) ∧
           ((List.length g.4 = List.length g.4) ∧
           ((g.3.5 = g.3.5) ∧
           True)))))))))))))))))
          False))
        False))
      False))
    False)
   (∃ y : Unit, ((tgL g.1 = true) ∧
   ((bs g.1 = bs g.1) ∧
   ((g.2 = g.2) ∧
   (((0 : Nat) = (0 : Nat)) ∧
   ((Eq (α := List Value) (gC enF g.4) (gC enF g.4)) ∧
   ((Plain (gC enF g.4)) ∧
   ((g.3.1 = g.3.1) ∧
   ((g.3.2 = g.3.2) ∧
   ((g.3.3 = g.3.3) ∧
   ((g.3.4 = g.3.4) ∧
   (((0 : Nat) = (0 : Nat)) ∧
   ((List.length g.4 = List.length g.4) ∧
   ((g.3.5 = g.3.5) ∧
   True))))))))))))))) := by kernel_rfl
theorem Ak_vc (a : List UInt8) (w : Bool) (y : RqY) (q : List Fl) (at_ : Int) : mcall EAk mAk 60 6 [.string (bs a), .bool w, .agg ⟨rqCy y 0 q.length⟩, .int .i64 at_] ⟨mkR (nums 0 [gRo enF q]), 1⟩ (retIs 1 (.bool true) [gRo enF q]) =
  ((((((0 : Nat) + List.length q * (2 : Nat) ≤ List.length (gC enF q) ∧ Plain (List.take (List.length q * (2 : Nat)) (List.drop (0 : Nat) (gC enF q)))) ∧ True) ∧ (True ∧ (IsF (Row.mk (List.take (List.length q * (2 : Nat)) (List.drop (0 : Nat) (gC enF q))) true (Ob.cells true)) (List.length q) ∧ (List.length q ≤ (1048576 : Nat) ∧ ShR (Row.mk (List.take (List.length q * (2 : Nat)) (List.drop (0 : Nat) (gC enF q))) true (Ob.cells true))))))) ∧
  (br (!lgR (Row.mk (List.take (List.length q * (2 : Nat)) (List.drop (0 : Nat) (gC enF q))) true (Ob.cells true)))
   (((True ∧ (True ∧ True))) ∧
   ((true = true) ∧
   ((Eq (α := List Value) (gC enF q) (gC enF q)) ∧
   ((Plain (gC enF q)) ∧
   True))))
   (br (decide (Int.ofNat (List.length (Array.toList (ByteArray.data (bs a)))) > (60 : Int)))
    (((True ∧ (True ∧ True))) ∧
    ((true = true) ∧
    ((Eq (α := List Value) (gC enF q) (gC enF q)) ∧
    ((Plain (gC enF q)) ∧
    True))))
    (∃ g : GAk, ((List.length g.1 ≤ (60 : Nat)) ∧
    ((bs g.1 = bs a) ∧
    ((g.2 = w) ∧
    (((0 : Nat) = (0 : Nat)) ∧
    (((0 : Int) = (0 : Int)) ∧
    ((Eq (α := List Value) (gC enF g.4) (gC enF q)) ∧
    ((Plain (gC enF g.4)) ∧
    ((g.3.1 = y.1) ∧
    ((g.3.2 = y.2) ∧
    ((g.3.3 = y.3) ∧
    ((g.3.4 = y.4) ∧
    (((0 : Nat) = (0 : Nat)) ∧
    ((List.length g.4 = List.length q) ∧
    ((g.3.5 = y.5) ∧
    (∀ (side : Bool), (br (side)
     (∀ (y2 : Unit), ((tgL g.1 = true) →
     (br (decide ((1 : Nat) + List.length (Array.toList (ByteArray.data (bs g.1))) ≤ (9223372036854775807 : Nat)))
      (br (decide (List.length ((34 : UInt8) :: ([] ++ Array.toList (ByteArray.data (bs g.1)))) + (1 : Nat) ≤ (9223372036854775807 : Nat)))
       (br (g.2)
        (br (decide ((2 : Nat) + List.length ((34 : UInt8) :: ([] ++ Array.toList (ByteArray.data (bs g.1)) ++ [(34 : UInt8)])) ≤ (9223372036854775807 : Nat)))
         (((((True ∧ (True ∧ (True ∧ (True ∧ (True ∧ (True ∧ (True ∧ (((4 : Nat) ≤ (4 : Nat) ∧ Plain [Value.string (ByteArray.mk #[(97 : UInt8)]), Value.string (ByteArray.mk #[(98 : UInt8)]), Value.string (ByteArray.mk #[(101 : UInt8), (116 : UInt8), (97 : UInt8), (103 : UInt8)]), Value.string (ByteArray.mk #[(87 : UInt8), (47 : UInt8)] ++ (ByteArray.mk #[(34 : UInt8)] ++ bs g.1 ++ ByteArray.mk #[(34 : UInt8)]))]) ∧ (True ∧ (True ∧ (True ∧ (True ∧ True)))))))))))) ∧ ((True ∧ (True ∧ (True ∧ (True ∧ (((0 : Nat) + List.length g.4 * (2 : Nat) ≤ List.length (gC enF g.4) ∧ Plain (List.take (List.length g.4 * (2 : Nat)) (List.drop (0 : Nat) (gC enF g.4)))) ∧ (True ∧ True)))))) ∧ True)) ∧ ((Plain (asC (Row.mk [Value.string (ByteArray.mk #[(97 : UInt8)]), Value.string (ByteArray.mk #[(98 : UInt8)]), Value.string (ByteArray.mk #[(101 : UInt8), (116 : UInt8), (97 : UInt8), (103 : UInt8)]), Value.string (ByteArray.mk #[(87 : UInt8), (47 : UInt8)] ++ (ByteArray.mk #[(34 : UInt8)] ++ bs g.1 ++ ByteArray.mk #[(34 : UInt8)]))] true (Ob.cells true)) (Row.mk (List.take (List.length g.4 * (2 : Nat)) (List.drop (0 : Nat) (gC enF g.4))) true (Ob.cells true))) ∧ True) ∧ (IsF (Row.mk [] true (Ob.cells true)) (0 : Nat) ∧ (IsF (Row.mk [Value.string (ByteArray.mk #[(97 : UInt8)]), Value.string (ByteArray.mk #[(98 : UInt8)]), Value.string (ByteArray.mk #[(101 : UInt8), (116 : UInt8), (97 : UInt8), (103 : UInt8)]), Value.string (ByteArray.mk #[(87 : UInt8), (47 : UInt8)] ++ (ByteArray.mk #[(34 : UInt8)] ++ bs g.1 ++ ByteArray.mk #[(34 : UInt8)]))] true (Ob.cells true)) (2 : Nat) ∧ (IsF (Row.mk (List.take (List.length g.4 * (2 : Nat)) (List.drop (0 : Nat) (gC enF g.4))) true (Ob.cells true)) (List.length g.4) ∧ ((0 : Nat) ≤ maxLen ∧ ((2 : Nat) ≤ maxLen ∧ (List.length g.4 ≤ (16777000 : Nat) ∧ BigW1 (Row.mk [Value.string (ByteArray.mk #[(97 : UInt8)]), Value.string (ByteArray.mk #[(98 : UInt8)]), Value.string (ByteArray.mk #[(101 : UInt8), (116 : UInt8), (97 : UInt8), (103 : UInt8)]), Value.string (ByteArray.mk #[(87 : UInt8), (47 : UInt8)] ++ (ByteArray.mk #[(34 : UInt8)] ++ bs g.1 ++ ByteArray.mk #[(34 : UInt8)]))] true (Ob.cells true))))))))))) ∧
         ((((((0 : Nat) + asN (Row.mk [Value.string (ByteArray.mk #[(97 : UInt8)]), Value.string (ByteArray.mk #[(98 : UInt8)]), Value.string (ByteArray.mk #[(101 : UInt8), (116 : UInt8), (97 : UInt8), (103 : UInt8)]), Value.string (ByteArray.mk #[(87 : UInt8), (47 : UInt8)] ++ (ByteArray.mk #[(34 : UInt8)] ++ bs g.1 ++ ByteArray.mk #[(34 : UInt8)]))] true (Ob.cells true)) (Row.mk (List.take (List.length g.4 * (2 : Nat)) (List.drop (0 : Nat) (gC enF g.4))) true (Ob.cells true)) * (2 : Nat) ≤ List.length (asC (Row.mk [Value.string (ByteArray.mk #[(97 : UInt8)]), Value.string (ByteArray.mk #[(98 : UInt8)]), Value.string (ByteArray.mk #[(101 : UInt8), (116 : UInt8), (97 : UInt8), (103 : UInt8)]), Value.string (ByteArray.mk #[(87 : UInt8), (47 : UInt8)] ++ (ByteArray.mk #[(34 : UInt8)] ++ bs g.1 ++ ByteArray.mk #[(34 : UInt8)]))] true (Ob.cells true)) (Row.mk (List.take (List.length g.4 * (2 : Nat)) (List.drop (0 : Nat) (gC enF g.4))) true (Ob.cells true))) ∧ Plain (List.take (asN (Row.mk [Value.string (ByteArray.mk #[(97 : UInt8)]), Value.string (ByteArray.mk #[(98 : UInt8)]), Value.string (ByteArray.mk #[(101 : UInt8), (116 : UInt8), (97 : UInt8), (103 : UInt8)]), Value.string (ByteArray.mk #[(87 : UInt8), (47 : UInt8)] ++ (ByteArray.mk #[(34 : UInt8)] ++ bs g.1 ++ ByteArray.mk #[(34 : UInt8)]))] true (Ob.cells true)) (Row.mk (List.take (List.length g.4 * (2 : Nat)) (List.drop (0 : Nat) (gC enF g.4))) true (Ob.cells true)) * (2 : Nat)) (List.drop (0 : Nat) (asC (Row.mk [Value.string (ByteArray.mk #[(97 : UInt8)]), Value.string (ByteArray.mk #[(98 : UInt8)]), Value.string (ByteArray.mk #[(101 : UInt8), (116 : UInt8), (97 : UInt8), (103 : UInt8)]), Value.string (ByteArray.mk #[(87 : UInt8), (47 : UInt8)] ++ (ByteArray.mk #[(34 : UInt8)] ++ bs g.1 ++ ByteArray.mk #[(34 : UInt8)]))] true (Ob.cells true)) (Row.mk (List.take (List.length g.4 * (2 : Nat)) (List.drop (0 : Nat) (gC enF g.4))) true (Ob.cells true)))))) ∧ (True ∧ True)) ∧ (True ∧ (IsF (Row.mk (List.take (asN (Row.mk [Value.string (ByteArray.mk #[(97 : UInt8)]), Value.string (ByteArray.mk #[(98 : UInt8)]), Value.string (ByteArray.mk #[(101 : UInt8), (116 : UInt8), (97 : UInt8), (103 : UInt8)]), Value.string (ByteArray.mk #[(87 : UInt8), (47 : UInt8)] ++ (ByteArray.mk #[(34 : UInt8)] ++ bs g.1 ++ ByteArray.mk #[(34 : UInt8)]))] true (Ob.cells true)) (Row.mk (List.take (List.length g.4 * (2 : Nat)) (List.drop (0 : Nat) (gC enF g.4))) true (Ob.cells true)) * (2 : Nat)) (List.drop (0 : Nat) (asC (Row.mk [Value.string (ByteArray.mk #[(97 : UInt8)]), Value.string (ByteArray.mk #[(98 : UInt8)]), Value.string (ByteArray.mk #[(101 : UInt8), (116 : UInt8), (97 : UInt8), (103 : UInt8)]), Value.string (ByteArray.mk #[(87 : UInt8), (47 : UInt8)] ++ (ByteArray.mk #[(34 : UInt8)] ++ bs g.1 ++ ByteArray.mk #[(34 : UInt8)]))] true (Ob.cells true)) (Row.mk (List.take (List.length g.4 * (2 : Nat)) (List.drop (0 : Nat) (gC enF g.4))) true (Ob.cells true))))) true (Ob.cells true)) (asN (Row.mk [Value.string (ByteArray.mk #[(97 : UInt8)]), Value.string (ByteArray.mk #[(98 : UInt8)]), Value.string (ByteArray.mk #[(101 : UInt8), (116 : UInt8), (97 : UInt8), (103 : UInt8)]), Value.string (ByteArray.mk #[(87 : UInt8), (47 : UInt8)] ++ (ByteArray.mk #[(34 : UInt8)] ++ bs g.1 ++ ByteArray.mk #[(34 : UInt8)]))] true (Ob.cells true)) (Row.mk (List.take (List.length g.4 * (2 : Nat)) (List.drop (0 : Nat) (gC enF g.4))) true (Ob.cells true))) ∧ (asN (Row.mk [Value.string (ByteArray.mk #[(97 : UInt8)]), Value.string (ByteArray.mk #[(98 : UInt8)]), Value.string (ByteArray.mk #[(101 : UInt8), (116 : UInt8), (97 : UInt8), (103 : UInt8)]), Value.string (ByteArray.mk #[(87 : UInt8), (47 : UInt8)] ++ (ByteArray.mk #[(34 : UInt8)] ++ bs g.1 ++ ByteArray.mk #[(34 : UInt8)]))] true (Ob.cells true)) (Row.mk (List.take (List.length g.4 * (2 : Nat)) (List.drop (0 : Nat) (gC enF g.4))) true (Ob.cells true)) ≤ (9223372036854775807 : Nat) ∧ alB (Row.mk (List.take (asN (Row.mk [Value.string (ByteArray.mk #[(97 : UInt8)]), Value.string (ByteArray.mk #[(98 : UInt8)]), Value.string (ByteArray.mk #[(101 : UInt8), (116 : UInt8), (97 : UInt8), (103 : UInt8)]), Value.string (ByteArray.mk #[(87 : UInt8), (47 : UInt8)] ++ (ByteArray.mk #[(34 : UInt8)] ++ bs g.1 ++ ByteArray.mk #[(34 : UInt8)]))] true (Ob.cells true)) (Row.mk (List.take (List.length g.4 * (2 : Nat)) (List.drop (0 : Nat) (gC enF g.4))) true (Ob.cells true)) * (2 : Nat)) (List.drop (0 : Nat) (asC (Row.mk [Value.string (ByteArray.mk #[(97 : UInt8)]), Value.string (ByteArray.mk #[(98 : UInt8)]), Value.string (ByteArray.mk #[(101 : UInt8), (116 : UInt8), (97 : UInt8), (103 : UInt8)]), Value.string (ByteArray.mk #[(87 : UInt8), (47 : UInt8)] ++ (ByteArray.mk #[(34 : UInt8)] ++ bs g.1 ++ ByteArray.mk #[(34 : UInt8)]))] true (Ob.cells true)) (Row.mk (List.take (List.length g.4 * (2 : Nat)) (List.drop (0 : Nat) (gC enF g.4))) true (Ob.cells true))))) true (Ob.cells true)) (ByteArray.mk #[(105 : UInt8), (102 : UInt8), (45 : UInt8), (110 : UInt8), (111 : UInt8), (110 : UInt8), (101 : UInt8), (45 : UInt8), (109 : UInt8), (97 : UInt8), (116 : UInt8), (99 : UInt8), (104 : UInt8)]) ≤ (16777216 : Nat)))))) ∧
         ((((((0 : Nat) + asN (Row.mk [Value.string (ByteArray.mk #[(97 : UInt8)]), Value.string (ByteArray.mk #[(98 : UInt8)]), Value.string (ByteArray.mk #[(101 : UInt8), (116 : UInt8), (97 : UInt8), (103 : UInt8)]), Value.string (ByteArray.mk #[(87 : UInt8), (47 : UInt8)] ++ (ByteArray.mk #[(34 : UInt8)] ++ bs g.1 ++ ByteArray.mk #[(34 : UInt8)]))] true (Ob.cells true)) (Row.mk (List.take (List.length g.4 * (2 : Nat)) (List.drop (0 : Nat) (gC enF g.4))) true (Ob.cells true)) * (2 : Nat) ≤ List.length (asC (Row.mk [Value.string (ByteArray.mk #[(97 : UInt8)]), Value.string (ByteArray.mk #[(98 : UInt8)]), Value.string (ByteArray.mk #[(101 : UInt8), (116 : UInt8), (97 : UInt8), (103 : UInt8)]), Value.string (ByteArray.mk #[(87 : UInt8), (47 : UInt8)] ++ (ByteArray.mk #[(34 : UInt8)] ++ bs g.1 ++ ByteArray.mk #[(34 : UInt8)]))] true (Ob.cells true)) (Row.mk (List.take (List.length g.4 * (2 : Nat)) (List.drop (0 : Nat) (gC enF g.4))) true (Ob.cells true))) ∧ Plain (List.take (asN (Row.mk [Value.string (ByteArray.mk #[(97 : UInt8)]), Value.string (ByteArray.mk #[(98 : UInt8)]), Value.string (ByteArray.mk #[(101 : UInt8), (116 : UInt8), (97 : UInt8), (103 : UInt8)]), Value.string (ByteArray.mk #[(87 : UInt8), (47 : UInt8)] ++ (ByteArray.mk #[(34 : UInt8)] ++ bs g.1 ++ ByteArray.mk #[(34 : UInt8)]))] true (Ob.cells true)) (Row.mk (List.take (List.length g.4 * (2 : Nat)) (List.drop (0 : Nat) (gC enF g.4))) true (Ob.cells true)) * (2 : Nat)) (List.drop (0 : Nat) (asC (Row.mk [Value.string (ByteArray.mk #[(97 : UInt8)]), Value.string (ByteArray.mk #[(98 : UInt8)]), Value.string (ByteArray.mk #[(101 : UInt8), (116 : UInt8), (97 : UInt8), (103 : UInt8)]), Value.string (ByteArray.mk #[(87 : UInt8), (47 : UInt8)] ++ (ByteArray.mk #[(34 : UInt8)] ++ bs g.1 ++ ByteArray.mk #[(34 : UInt8)]))] true (Ob.cells true)) (Row.mk (List.take (List.length g.4 * (2 : Nat)) (List.drop (0 : Nat) (gC enF g.4))) true (Ob.cells true)))))) ∧ (True ∧ True)) ∧ (True ∧ (IsF (Row.mk (List.take (asN (Row.mk [Value.string (ByteArray.mk #[(97 : UInt8)]), Value.string (ByteArray.mk #[(98 : UInt8)]), Value.string (ByteArray.mk #[(101 : UInt8), (116 : UInt8), (97 : UInt8), (103 : UInt8)]), Value.string (ByteArray.mk #[(87 : UInt8), (47 : UInt8)] ++ (ByteArray.mk #[(34 : UInt8)] ++ bs g.1 ++ ByteArray.mk #[(34 : UInt8)]))] true (Ob.cells true)) (Row.mk (List.take (List.length g.4 * (2 : Nat)) (List.drop (0 : Nat) (gC enF g.4))) true (Ob.cells true)) * (2 : Nat)) (List.drop (0 : Nat) (asC (Row.mk [Value.string (ByteArray.mk #[(97 : UInt8)]), Value.string (ByteArray.mk #[(98 : UInt8)]), Value.string (ByteArray.mk #[(101 : UInt8), (116 : UInt8), (97 : UInt8), (103 : UInt8)]), Value.string (ByteArray.mk #[(87 : UInt8), (47 : UInt8)] ++ (ByteArray.mk #[(34 : UInt8)] ++ bs g.1 ++ ByteArray.mk #[(34 : UInt8)]))] true (Ob.cells true)) (Row.mk (List.take (List.length g.4 * (2 : Nat)) (List.drop (0 : Nat) (gC enF g.4))) true (Ob.cells true))))) true (Ob.cells true)) (asN (Row.mk [Value.string (ByteArray.mk #[(97 : UInt8)]), Value.string (ByteArray.mk #[(98 : UInt8)]), Value.string (ByteArray.mk #[(101 : UInt8), (116 : UInt8), (97 : UInt8), (103 : UInt8)]), Value.string (ByteArray.mk #[(87 : UInt8), (47 : UInt8)] ++ (ByteArray.mk #[(34 : UInt8)] ++ bs g.1 ++ ByteArray.mk #[(34 : UInt8)]))] true (Ob.cells true)) (Row.mk (List.take (List.length g.4 * (2 : Nat)) (List.drop (0 : Nat) (gC enF g.4))) true (Ob.cells true))) ∧ (asN (Row.mk [Value.string (ByteArray.mk #[(97 : UInt8)]), Value.string (ByteArray.mk #[(98 : UInt8)]), Value.string (ByteArray.mk #[(101 : UInt8), (116 : UInt8), (97 : UInt8), (103 : UInt8)]), Value.string (ByteArray.mk #[(87 : UInt8), (47 : UInt8)] ++ (ByteArray.mk #[(34 : UInt8)] ++ bs g.1 ++ ByteArray.mk #[(34 : UInt8)]))] true (Ob.cells true)) (Row.mk (List.take (List.length g.4 * (2 : Nat)) (List.drop (0 : Nat) (gC enF g.4))) true (Ob.cells true)) ≤ (9223372036854775807 : Nat) ∧ alB (Row.mk (List.take (asN (Row.mk [Value.string (ByteArray.mk #[(97 : UInt8)]), Value.string (ByteArray.mk #[(98 : UInt8)]), Value.string (ByteArray.mk #[(101 : UInt8), (116 : UInt8), (97 : UInt8), (103 : UInt8)]), Value.string (ByteArray.mk #[(87 : UInt8), (47 : UInt8)] ++ (ByteArray.mk #[(34 : UInt8)] ++ bs g.1 ++ ByteArray.mk #[(34 : UInt8)]))] true (Ob.cells true)) (Row.mk (List.take (List.length g.4 * (2 : Nat)) (List.drop (0 : Nat) (gC enF g.4))) true (Ob.cells true)) * (2 : Nat)) (List.drop (0 : Nat) (asC (Row.mk [Value.string (ByteArray.mk #[(97 : UInt8)]), Value.string (ByteArray.mk #[(98 : UInt8)]), Value.string (ByteArray.mk #[(101 : UInt8), (116 : UInt8), (97 : UInt8), (103 : UInt8)]), Value.string (ByteArray.mk #[(87 : UInt8), (47 : UInt8)] ++ (ByteArray.mk #[(34 : UInt8)] ++ bs g.1 ++ ByteArray.mk #[(34 : UInt8)]))] true (Ob.cells true)) (Row.mk (List.take (List.length g.4 * (2 : Nat)) (List.drop (0 : Nat) (gC enF g.4))) true (Ob.cells true))))) true (Ob.cells true)) (ByteArray.mk #[(114 : UInt8), (97 : UInt8), (110 : UInt8), (103 : UInt8), (101 : UInt8)]) ≤ (16777216 : Nat)))))) ∧
         (br (alN (Row.mk (List.take (asN (Row.mk [Value.string (ByteArray.mk #[(97 : UInt8)]), Value.string (ByteArray.mk #[(98 : UInt8)]), Value.string (ByteArray.mk #[(101 : UInt8), (116 : UInt8), (97 : UInt8), (103 : UInt8)]), Value.string (ByteArray.mk #[(87 : UInt8), (47 : UInt8)] ++ (ByteArray.mk #[(34 : UInt8)] ++ bs g.1 ++ ByteArray.mk #[(34 : UInt8)]))] true (Ob.cells true)) (Row.mk (List.take (List.length g.4 * (2 : Nat)) (List.drop (0 : Nat) (gC enF g.4))) true (Ob.cells true)) * (2 : Nat)) (List.drop (0 : Nat) (asC (Row.mk [Value.string (ByteArray.mk #[(97 : UInt8)]), Value.string (ByteArray.mk #[(98 : UInt8)]), Value.string (ByteArray.mk #[(101 : UInt8), (116 : UInt8), (97 : UInt8), (103 : UInt8)]), Value.string (ByteArray.mk #[(87 : UInt8), (47 : UInt8)] ++ (ByteArray.mk #[(34 : UInt8)] ++ bs g.1 ++ ByteArray.mk #[(34 : UInt8)]))] true (Ob.cells true)) (Row.mk (List.take (List.length g.4 * (2 : Nat)) (List.drop (0 : Nat) (gC enF g.4))) true (Ob.cells true))))) true (Ob.cells true)) (ByteArray.mk #[(105 : UInt8), (102 : UInt8), (45 : UInt8), (110 : UInt8), (111 : UInt8), (110 : UInt8), (101 : UInt8), (45 : UInt8), (109 : UInt8), (97 : UInt8), (116 : UInt8), (99 : UInt8), (104 : UInt8)]) == (1 : Int))
          (br (alN (Row.mk (List.take (asN (Row.mk [Value.string (ByteArray.mk #[(97 : UInt8)]), Value.string (ByteArray.mk #[(98 : UInt8)]), Value.string (ByteArray.mk #[(101 : UInt8), (116 : UInt8), (97 : UInt8), (103 : UInt8)]), Value.string (ByteArray.mk #[(87 : UInt8), (47 : UInt8)] ++ (ByteArray.mk #[(34 : UInt8)] ++ bs g.1 ++ ByteArray.mk #[(34 : UInt8)]))] true (Ob.cells true)) (Row.mk (List.take (List.length g.4 * (2 : Nat)) (List.drop (0 : Nat) (gC enF g.4))) true (Ob.cells true)) * (2 : Nat)) (List.drop (0 : Nat) (asC (Row.mk [Value.string (ByteArray.mk #[(97 : UInt8)]), Value.string (ByteArray.mk #[(98 : UInt8)]), Value.string (ByteArray.mk #[(101 : UInt8), (116 : UInt8), (97 : UInt8), (103 : UInt8)]), Value.string (ByteArray.mk #[(87 : UInt8), (47 : UInt8)] ++ (ByteArray.mk #[(34 : UInt8)] ++ bs g.1 ++ ByteArray.mk #[(34 : UInt8)]))] true (Ob.cells true)) (Row.mk (List.take (List.length g.4 * (2 : Nat)) (List.drop (0 : Nat) (gC enF g.4))) true (Ob.cells true))))) true (Ob.cells true)) (ByteArray.mk #[(114 : UInt8), (97 : UInt8), (110 : UInt8), (103 : UInt8), (101 : UInt8)]) == (0 : Int))
           (((((True ∧ (True ∧ (True ∧ (True ∧ (True ∧ (True ∧ (True ∧ (((4 : Nat) ≤ (4 : Nat) ∧ Plain [Value.string (ByteArray.mk #[(97 : UInt8)]), Value.string (ByteArray.mk #[(98 : UInt8)]), Value.string (ByteArray.mk #[(101 : UInt8), (116 : UInt8), (97 : UInt8), (103 : UInt8)]), Value.string (ByteArray.mk #[(87 : UInt8), (47 : UInt8)] ++ (ByteArray.mk #[(34 : UInt8)] ++ bs g.1 ++ ByteArray.mk #[(34 : UInt8)]))]) ∧ (True ∧ (True ∧ (True ∧ (True ∧ True)))))))))))) ∧ ((True ∧ (True ∧ (True ∧ (True ∧ (((0 : Nat) + asN (Row.mk [Value.string (ByteArray.mk #[(97 : UInt8)]), Value.string (ByteArray.mk #[(98 : UInt8)]), Value.string (ByteArray.mk #[(101 : UInt8), (116 : UInt8), (97 : UInt8), (103 : UInt8)]), Value.string (ByteArray.mk #[(87 : UInt8), (47 : UInt8)] ++ (ByteArray.mk #[(34 : UInt8)] ++ bs g.1 ++ ByteArray.mk #[(34 : UInt8)]))] true (Ob.cells true)) (Row.mk (List.take (List.length g.4 * (2 : Nat)) (List.drop (0 : Nat) (gC enF g.4))) true (Ob.cells true)) * (2 : Nat) ≤ List.length (asC (Row.mk [Value.string (ByteArray.mk #[(97 : UInt8)]), Value.string (ByteArray.mk #[(98 : UInt8)]), Value.string (ByteArray.mk #[(101 : UInt8), (116 : UInt8), (97 : UInt8), (103 : UInt8)]), Value.string (ByteArray.mk #[(87 : UInt8), (47 : UInt8)] ++ (ByteArray.mk #[(34 : UInt8)] ++ bs g.1 ++ ByteArray.mk #[(34 : UInt8)]))] true (Ob.cells true)) (Row.mk (List.take (List.length g.4 * (2 : Nat)) (List.drop (0 : Nat) (gC enF g.4))) true (Ob.cells true))) ∧ Plain (List.take (asN (Row.mk [Value.string (ByteArray.mk #[(97 : UInt8)]), Value.string (ByteArray.mk #[(98 : UInt8)]), Value.string (ByteArray.mk #[(101 : UInt8), (116 : UInt8), (97 : UInt8), (103 : UInt8)]), Value.string (ByteArray.mk #[(87 : UInt8), (47 : UInt8)] ++ (ByteArray.mk #[(34 : UInt8)] ++ bs g.1 ++ ByteArray.mk #[(34 : UInt8)]))] true (Ob.cells true)) (Row.mk (List.take (List.length g.4 * (2 : Nat)) (List.drop (0 : Nat) (gC enF g.4))) true (Ob.cells true)) * (2 : Nat)) (List.drop (0 : Nat) (asC (Row.mk [Value.string (ByteArray.mk #[(97 : UInt8)]), Value.string (ByteArray.mk #[(98 : UInt8)]), Value.string (ByteArray.mk #[(101 : UInt8), (116 : UInt8), (97 : UInt8), (103 : UInt8)]), Value.string (ByteArray.mk #[(87 : UInt8), (47 : UInt8)] ++ (ByteArray.mk #[(34 : UInt8)] ++ bs g.1 ++ ByteArray.mk #[(34 : UInt8)]))] true (Ob.cells true)) (Row.mk (List.take (List.length g.4 * (2 : Nat)) (List.drop (0 : Nat) (gC enF g.4))) true (Ob.cells true)))))) ∧ (True ∧ True)))))) ∧ True)) ∧ (True ∧ (IsF (Row.mk [] true (Ob.cells true)) (0 : Nat) ∧ (IsF (Row.mk [Value.string (ByteArray.mk #[(97 : UInt8)]), Value.string (ByteArray.mk #[(98 : UInt8)]), Value.string (ByteArray.mk #[(101 : UInt8), (116 : UInt8), (97 : UInt8), (103 : UInt8)]), Value.string (ByteArray.mk #[(87 : UInt8), (47 : UInt8)] ++ (ByteArray.mk #[(34 : UInt8)] ++ bs g.1 ++ ByteArray.mk #[(34 : UInt8)]))] true (Ob.cells true)) (2 : Nat) ∧ (IsF (Row.mk (List.take (asN (Row.mk [Value.string (ByteArray.mk #[(97 : UInt8)]), Value.string (ByteArray.mk #[(98 : UInt8)]), Value.string (ByteArray.mk #[(101 : UInt8), (116 : UInt8), (97 : UInt8), (103 : UInt8)]), Value.string (ByteArray.mk #[(87 : UInt8), (47 : UInt8)] ++ (ByteArray.mk #[(34 : UInt8)] ++ bs g.1 ++ ByteArray.mk #[(34 : UInt8)]))] true (Ob.cells true)) (Row.mk (List.take (List.length g.4 * (2 : Nat)) (List.drop (0 : Nat) (gC enF g.4))) true (Ob.cells true)) * (2 : Nat)) (List.drop (0 : Nat) (asC (Row.mk [Value.string (ByteArray.mk #[(97 : UInt8)]), Value.string (ByteArray.mk #[(98 : UInt8)]), Value.string (ByteArray.mk #[(101 : UInt8), (116 : UInt8), (97 : UInt8), (103 : UInt8)]), Value.string (ByteArray.mk #[(87 : UInt8), (47 : UInt8)] ++ (ByteArray.mk #[(34 : UInt8)] ++ bs g.1 ++ ByteArray.mk #[(34 : UInt8)]))] true (Ob.cells true)) (Row.mk (List.take (List.length g.4 * (2 : Nat)) (List.drop (0 : Nat) (gC enF g.4))) true (Ob.cells true))))) true (Ob.cells true)) (asN (Row.mk [Value.string (ByteArray.mk #[(97 : UInt8)]), Value.string (ByteArray.mk #[(98 : UInt8)]), Value.string (ByteArray.mk #[(101 : UInt8), (116 : UInt8), (97 : UInt8), (103 : UInt8)]), Value.string (ByteArray.mk #[(87 : UInt8), (47 : UInt8)] ++ (ByteArray.mk #[(34 : UInt8)] ++ bs g.1 ++ ByteArray.mk #[(34 : UInt8)]))] true (Ob.cells true)) (Row.mk (List.take (List.length g.4 * (2 : Nat)) (List.drop (0 : Nat) (gC enF g.4))) true (Ob.cells true))) ∧ ((0 : Nat) ≤ maxLen ∧ ((2 : Nat) ≤ maxLen ∧ (asN (Row.mk [Value.string (ByteArray.mk #[(97 : UInt8)]), Value.string (ByteArray.mk #[(98 : UInt8)]), Value.string (ByteArray.mk #[(101 : UInt8), (116 : UInt8), (97 : UInt8), (103 : UInt8)]), Value.string (ByteArray.mk #[(87 : UInt8), (47 : UInt8)] ++ (ByteArray.mk #[(34 : UInt8)] ++ bs g.1 ++ ByteArray.mk #[(34 : UInt8)]))] true (Ob.cells true)) (Row.mk (List.take (List.length g.4 * (2 : Nat)) (List.drop (0 : Nat) (gC enF g.4))) true (Ob.cells true)) ≤ (9223372036854775807 : Nat) ∧ (BigW1 (Row.mk [Value.string (ByteArray.mk #[(97 : UInt8)]), Value.string (ByteArray.mk #[(98 : UInt8)]), Value.string (ByteArray.mk #[(101 : UInt8), (116 : UInt8), (97 : UInt8), (103 : UInt8)]), Value.string (ByteArray.mk #[(87 : UInt8), (47 : UInt8)] ++ (ByteArray.mk #[(34 : UInt8)] ++ bs g.1 ++ ByteArray.mk #[(34 : UInt8)]))] true (Ob.cells true)) ∧ BigW1 (Row.mk (List.take (asN (Row.mk [Value.string (ByteArray.mk #[(97 : UInt8)]), Value.string (ByteArray.mk #[(98 : UInt8)]), Value.string (ByteArray.mk #[(101 : UInt8), (116 : UInt8), (97 : UInt8), (103 : UInt8)]), Value.string (ByteArray.mk #[(87 : UInt8), (47 : UInt8)] ++ (ByteArray.mk #[(34 : UInt8)] ++ bs g.1 ++ ByteArray.mk #[(34 : UInt8)]))] true (Ob.cells true)) (Row.mk (List.take (List.length g.4 * (2 : Nat)) (List.drop (0 : Nat) (gC enF g.4))) true (Ob.cells true)) * (2 : Nat)) (List.drop (0 : Nat) (asC (Row.mk [Value.string (ByteArray.mk #[(97 : UInt8)]), Value.string (ByteArray.mk #[(98 : UInt8)]), Value.string (ByteArray.mk #[(101 : UInt8), (116 : UInt8), (97 : UInt8), (103 : UInt8)]), Value.string (ByteArray.mk #[(87 : UInt8), (47 : UInt8)] ++ (ByteArray.mk #[(34 : UInt8)] ++ bs g.1 ++ ByteArray.mk #[(34 : UInt8)]))] true (Ob.cells true)) (Row.mk (List.take (List.length g.4 * (2 : Nat)) (List.drop (0 : Nat) (gC enF g.4))) true (Ob.cells true))))) true (Ob.cells true)))))))))))) ∧
           (br (samR (Row.mk [Value.string (ByteArray.mk #[(97 : UInt8)]), Value.string (ByteArray.mk #[(98 : UInt8)]), Value.string (ByteArray.mk #[(101 : UInt8), (116 : UInt8), (97 : UInt8), (103 : UInt8)]), Value.string (ByteArray.mk #[(87 : UInt8), (47 : UInt8)] ++ (ByteArray.mk #[(34 : UInt8)] ++ bs g.1 ++ ByteArray.mk #[(34 : UInt8)]))] true (Ob.cells true)) (Row.mk (List.take (asN (Row.mk [Value.string (ByteArray.mk #[(97 : UInt8)]), Value.string (ByteArray.mk #[(98 : UInt8)]), Value.string (ByteArray.mk #[(101 : UInt8), (116 : UInt8), (97 : UInt8), (103 : UInt8)]), Value.string (ByteArray.mk #[(87 : UInt8), (47 : UInt8)] ++ (ByteArray.mk #[(34 : UInt8)] ++ bs g.1 ++ ByteArray.mk #[(34 : UInt8)]))] true (Ob.cells true)) (Row.mk (List.take (List.length g.4 * (2 : Nat)) (List.drop (0 : Nat) (gC enF g.4))) true (Ob.cells true)) * (2 : Nat)) (List.drop (0 : Nat) (asC (Row.mk [Value.string (ByteArray.mk #[(97 : UInt8)]), Value.string (ByteArray.mk #[(98 : UInt8)]), Value.string (ByteArray.mk #[(101 : UInt8), (116 : UInt8), (97 : UInt8), (103 : UInt8)]), Value.string (ByteArray.mk #[(87 : UInt8), (47 : UInt8)] ++ (ByteArray.mk #[(34 : UInt8)] ++ bs g.1 ++ ByteArray.mk #[(34 : UInt8)]))] true (Ob.cells true)) (Row.mk (List.take (List.length g.4 * (2 : Nat)) (List.drop (0 : Nat) (gC enF g.4))) true (Ob.cells true))))) true (Ob.cells true)))
            (br (strEq g.3.1 g.3.1)
             (br (strEq g.3.4 g.3.4)
              (((True ∧ (True ∧ True))) ∧
              ((true = true) ∧
              ((Eq (α := List Value) (gC enF q) (gC enF g.4)) ∧
              ((Plain (gC enF q)) ∧
              True))))
              ((true = false) ∧
              ((Eq (α := List Value) (gC enF q) (gC enF g.4)) ∧
              ((Plain (gC enF q)) ∧
              True))))
             ((true = false) ∧
             ((Eq (α := List Value) (gC enF q) (gC enF g.4)) ∧
             ((Plain (gC enF q)) ∧
             True))))
            ((true = false) ∧
            ((Eq (α := List Value) (gC enF q) (gC enF g.4)) ∧
            ((Plain (gC enF q)) ∧
            True)))))
           ((true = false) ∧
           ((Eq (α := List Value) (gC enF q) (gC enF g.4)) ∧
           ((Plain (gC enF q)) ∧
           True))))
          ((true = false) ∧
          ((Eq (α := List Value) (gC enF q) (gC enF g.4)) ∧
          ((Plain (gC enF q)) ∧
          True)))))))
         False)
        (((((True ∧ (True ∧ (True ∧ (True ∧ (True ∧ (True ∧ (True ∧ (((4 : Nat) ≤ (4 : Nat) ∧ Plain [Value.string (ByteArray.mk #[(97 : UInt8)]), Value.string (ByteArray.mk #[(98 : UInt8)]), Value.string (ByteArray.mk #[(101 : UInt8), (116 : UInt8), (97 : UInt8), (103 : UInt8)]), Value.string (ByteArray.mk #[(34 : UInt8)] ++ bs g.1 ++ ByteArray.mk #[(34 : UInt8)])]) ∧ (True ∧ (True ∧ (True ∧ (True ∧ True)))))))))))) ∧ ((True ∧ (True ∧ (True ∧ (True ∧ (((0 : Nat) + List.length g.4 * (2 : Nat) ≤ List.length (gC enF g.4) ∧ Plain (List.take (List.length g.4 * (2 : Nat)) (List.drop (0 : Nat) (gC enF g.4)))) ∧ (True ∧ True)))))) ∧ True)) ∧ ((Plain (asC (Row.mk [Value.string (ByteArray.mk #[(97 : UInt8)]), Value.string (ByteArray.mk #[(98 : UInt8)]), Value.string (ByteArray.mk #[(101 : UInt8), (116 : UInt8), (97 : UInt8), (103 : UInt8)]), Value.string (ByteArray.mk #[(34 : UInt8)] ++ bs g.1 ++ ByteArray.mk #[(34 : UInt8)])] true (Ob.cells true)) (Row.mk (List.take (List.length g.4 * (2 : Nat)) (List.drop (0 : Nat) (gC enF g.4))) true (Ob.cells true))) ∧ True) ∧ (IsF (Row.mk [] true (Ob.cells true)) (0 : Nat) ∧ (IsF (Row.mk [Value.string (ByteArray.mk #[(97 : UInt8)]), Value.string (ByteArray.mk #[(98 : UInt8)]), Value.string (ByteArray.mk #[(101 : UInt8), (116 : UInt8), (97 : UInt8), (103 : UInt8)]), Value.string (ByteArray.mk #[(34 : UInt8)] ++ bs g.1 ++ ByteArray.mk #[(34 : UInt8)])] true (Ob.cells true)) (2 : Nat) ∧ (IsF (Row.mk (List.take (List.length g.4 * (2 : Nat)) (List.drop (0 : Nat) (gC enF g.4))) true (Ob.cells true)) (List.length g.4) ∧ ((0 : Nat) ≤ maxLen ∧ ((2 : Nat) ≤ maxLen ∧ (List.length g.4 ≤ (16777000 : Nat) ∧ BigW1 (Row.mk [Value.string (ByteArray.mk #[(97 : UInt8)]), Value.string (ByteArray.mk #[(98 : UInt8)]), Value.string (ByteArray.mk #[(101 : UInt8), (116 : UInt8), (97 : UInt8), (103 : UInt8)]), Value.string (ByteArray.mk #[(34 : UInt8)] ++ bs g.1 ++ ByteArray.mk #[(34 : UInt8)])] true (Ob.cells true))))))))))) ∧
        ((((((0 : Nat) + asN (Row.mk [Value.string (ByteArray.mk #[(97 : UInt8)]), Value.string (ByteArray.mk #[(98 : UInt8)]), Value.string (ByteArray.mk #[(101 : UInt8), (116 : UInt8), (97 : UInt8), (103 : UInt8)]), Value.string (ByteArray.mk #[(34 : UInt8)] ++ bs g.1 ++ ByteArray.mk #[(34 : UInt8)])] true (Ob.cells true)) (Row.mk (List.take (List.length g.4 * (2 : Nat)) (List.drop (0 : Nat) (gC enF g.4))) true (Ob.cells true)) * (2 : Nat) ≤ List.length (asC (Row.mk [Value.string (ByteArray.mk #[(97 : UInt8)]), Value.string (ByteArray.mk #[(98 : UInt8)]), Value.string (ByteArray.mk #[(101 : UInt8), (116 : UInt8), (97 : UInt8), (103 : UInt8)]), Value.string (ByteArray.mk #[(34 : UInt8)] ++ bs g.1 ++ ByteArray.mk #[(34 : UInt8)])] true (Ob.cells true)) (Row.mk (List.take (List.length g.4 * (2 : Nat)) (List.drop (0 : Nat) (gC enF g.4))) true (Ob.cells true))) ∧ Plain (List.take (asN (Row.mk [Value.string (ByteArray.mk #[(97 : UInt8)]), Value.string (ByteArray.mk #[(98 : UInt8)]), Value.string (ByteArray.mk #[(101 : UInt8), (116 : UInt8), (97 : UInt8), (103 : UInt8)]), Value.string (ByteArray.mk #[(34 : UInt8)] ++ bs g.1 ++ ByteArray.mk #[(34 : UInt8)])] true (Ob.cells true)) (Row.mk (List.take (List.length g.4 * (2 : Nat)) (List.drop (0 : Nat) (gC enF g.4))) true (Ob.cells true)) * (2 : Nat)) (List.drop (0 : Nat) (asC (Row.mk [Value.string (ByteArray.mk #[(97 : UInt8)]), Value.string (ByteArray.mk #[(98 : UInt8)]), Value.string (ByteArray.mk #[(101 : UInt8), (116 : UInt8), (97 : UInt8), (103 : UInt8)]), Value.string (ByteArray.mk #[(34 : UInt8)] ++ bs g.1 ++ ByteArray.mk #[(34 : UInt8)])] true (Ob.cells true)) (Row.mk (List.take (List.length g.4 * (2 : Nat)) (List.drop (0 : Nat) (gC enF g.4))) true (Ob.cells true)))))) ∧ (True ∧ True)) ∧ (True ∧ (IsF (Row.mk (List.take (asN (Row.mk [Value.string (ByteArray.mk #[(97 : UInt8)]), Value.string (ByteArray.mk #[(98 : UInt8)]), Value.string (ByteArray.mk #[(101 : UInt8), (116 : UInt8), (97 : UInt8), (103 : UInt8)]), Value.string (ByteArray.mk #[(34 : UInt8)] ++ bs g.1 ++ ByteArray.mk #[(34 : UInt8)])] true (Ob.cells true)) (Row.mk (List.take (List.length g.4 * (2 : Nat)) (List.drop (0 : Nat) (gC enF g.4))) true (Ob.cells true)) * (2 : Nat)) (List.drop (0 : Nat) (asC (Row.mk [Value.string (ByteArray.mk #[(97 : UInt8)]), Value.string (ByteArray.mk #[(98 : UInt8)]), Value.string (ByteArray.mk #[(101 : UInt8), (116 : UInt8), (97 : UInt8), (103 : UInt8)]), Value.string (ByteArray.mk #[(34 : UInt8)] ++ bs g.1 ++ ByteArray.mk #[(34 : UInt8)])] true (Ob.cells true)) (Row.mk (List.take (List.length g.4 * (2 : Nat)) (List.drop (0 : Nat) (gC enF g.4))) true (Ob.cells true))))) true (Ob.cells true)) (asN (Row.mk [Value.string (ByteArray.mk #[(97 : UInt8)]), Value.string (ByteArray.mk #[(98 : UInt8)]), Value.string (ByteArray.mk #[(101 : UInt8), (116 : UInt8), (97 : UInt8), (103 : UInt8)]), Value.string (ByteArray.mk #[(34 : UInt8)] ++ bs g.1 ++ ByteArray.mk #[(34 : UInt8)])] true (Ob.cells true)) (Row.mk (List.take (List.length g.4 * (2 : Nat)) (List.drop (0 : Nat) (gC enF g.4))) true (Ob.cells true))) ∧ (asN (Row.mk [Value.string (ByteArray.mk #[(97 : UInt8)]), Value.string (ByteArray.mk #[(98 : UInt8)]), Value.string (ByteArray.mk #[(101 : UInt8), (116 : UInt8), (97 : UInt8), (103 : UInt8)]), Value.string (ByteArray.mk #[(34 : UInt8)] ++ bs g.1 ++ ByteArray.mk #[(34 : UInt8)])] true (Ob.cells true)) (Row.mk (List.take (List.length g.4 * (2 : Nat)) (List.drop (0 : Nat) (gC enF g.4))) true (Ob.cells true)) ≤ (9223372036854775807 : Nat) ∧ alB (Row.mk (List.take (asN (Row.mk [Value.string (ByteArray.mk #[(97 : UInt8)]), Value.string (ByteArray.mk #[(98 : UInt8)]), Value.string (ByteArray.mk #[(101 : UInt8), (116 : UInt8), (97 : UInt8), (103 : UInt8)]), Value.string (ByteArray.mk #[(34 : UInt8)] ++ bs g.1 ++ ByteArray.mk #[(34 : UInt8)])] true (Ob.cells true)) (Row.mk (List.take (List.length g.4 * (2 : Nat)) (List.drop (0 : Nat) (gC enF g.4))) true (Ob.cells true)) * (2 : Nat)) (List.drop (0 : Nat) (asC (Row.mk [Value.string (ByteArray.mk #[(97 : UInt8)]), Value.string (ByteArray.mk #[(98 : UInt8)]), Value.string (ByteArray.mk #[(101 : UInt8), (116 : UInt8), (97 : UInt8), (103 : UInt8)]), Value.string (ByteArray.mk #[(34 : UInt8)] ++ bs g.1 ++ ByteArray.mk #[(34 : UInt8)])] true (Ob.cells true)) (Row.mk (List.take (List.length g.4 * (2 : Nat)) (List.drop (0 : Nat) (gC enF g.4))) true (Ob.cells true))))) true (Ob.cells true)) (ByteArray.mk #[(105 : UInt8), (102 : UInt8), (45 : UInt8), (110 : UInt8), (111 : UInt8), (110 : UInt8), (101 : UInt8), (45 : UInt8), (109 : UInt8), (97 : UInt8), (116 : UInt8), (99 : UInt8), (104 : UInt8)]) ≤ (16777216 : Nat)))))) ∧
        ((((((0 : Nat) + asN (Row.mk [Value.string (ByteArray.mk #[(97 : UInt8)]), Value.string (ByteArray.mk #[(98 : UInt8)]), Value.string (ByteArray.mk #[(101 : UInt8), (116 : UInt8), (97 : UInt8), (103 : UInt8)]), Value.string (ByteArray.mk #[(34 : UInt8)] ++ bs g.1 ++ ByteArray.mk #[(34 : UInt8)])] true (Ob.cells true)) (Row.mk (List.take (List.length g.4 * (2 : Nat)) (List.drop (0 : Nat) (gC enF g.4))) true (Ob.cells true)) * (2 : Nat) ≤ List.length (asC (Row.mk [Value.string (ByteArray.mk #[(97 : UInt8)]), Value.string (ByteArray.mk #[(98 : UInt8)]), Value.string (ByteArray.mk #[(101 : UInt8), (116 : UInt8), (97 : UInt8), (103 : UInt8)]), Value.string (ByteArray.mk #[(34 : UInt8)] ++ bs g.1 ++ ByteArray.mk #[(34 : UInt8)])] true (Ob.cells true)) (Row.mk (List.take (List.length g.4 * (2 : Nat)) (List.drop (0 : Nat) (gC enF g.4))) true (Ob.cells true))) ∧ Plain (List.take (asN (Row.mk [Value.string (ByteArray.mk #[(97 : UInt8)]), Value.string (ByteArray.mk #[(98 : UInt8)]), Value.string (ByteArray.mk #[(101 : UInt8), (116 : UInt8), (97 : UInt8), (103 : UInt8)]), Value.string (ByteArray.mk #[(34 : UInt8)] ++ bs g.1 ++ ByteArray.mk #[(34 : UInt8)])] true (Ob.cells true)) (Row.mk (List.take (List.length g.4 * (2 : Nat)) (List.drop (0 : Nat) (gC enF g.4))) true (Ob.cells true)) * (2 : Nat)) (List.drop (0 : Nat) (asC (Row.mk [Value.string (ByteArray.mk #[(97 : UInt8)]), Value.string (ByteArray.mk #[(98 : UInt8)]), Value.string (ByteArray.mk #[(101 : UInt8), (116 : UInt8), (97 : UInt8), (103 : UInt8)]), Value.string (ByteArray.mk #[(34 : UInt8)] ++ bs g.1 ++ ByteArray.mk #[(34 : UInt8)])] true (Ob.cells true)) (Row.mk (List.take (List.length g.4 * (2 : Nat)) (List.drop (0 : Nat) (gC enF g.4))) true (Ob.cells true)))))) ∧ (True ∧ True)) ∧ (True ∧ (IsF (Row.mk (List.take (asN (Row.mk [Value.string (ByteArray.mk #[(97 : UInt8)]), Value.string (ByteArray.mk #[(98 : UInt8)]), Value.string (ByteArray.mk #[(101 : UInt8), (116 : UInt8), (97 : UInt8), (103 : UInt8)]), Value.string (ByteArray.mk #[(34 : UInt8)] ++ bs g.1 ++ ByteArray.mk #[(34 : UInt8)])] true (Ob.cells true)) (Row.mk (List.take (List.length g.4 * (2 : Nat)) (List.drop (0 : Nat) (gC enF g.4))) true (Ob.cells true)) * (2 : Nat)) (List.drop (0 : Nat) (asC (Row.mk [Value.string (ByteArray.mk #[(97 : UInt8)]), Value.string (ByteArray.mk #[(98 : UInt8)]), Value.string (ByteArray.mk #[(101 : UInt8), (116 : UInt8), (97 : UInt8), (103 : UInt8)]), Value.string (ByteArray.mk #[(34 : UInt8)] ++ bs g.1 ++ ByteArray.mk #[(34 : UInt8)])] true (Ob.cells true)) (Row.mk (List.take (List.length g.4 * (2 : Nat)) (List.drop (0 : Nat) (gC enF g.4))) true (Ob.cells true))))) true (Ob.cells true)) (asN (Row.mk [Value.string (ByteArray.mk #[(97 : UInt8)]), Value.string (ByteArray.mk #[(98 : UInt8)]), Value.string (ByteArray.mk #[(101 : UInt8), (116 : UInt8), (97 : UInt8), (103 : UInt8)]), Value.string (ByteArray.mk #[(34 : UInt8)] ++ bs g.1 ++ ByteArray.mk #[(34 : UInt8)])] true (Ob.cells true)) (Row.mk (List.take (List.length g.4 * (2 : Nat)) (List.drop (0 : Nat) (gC enF g.4))) true (Ob.cells true))) ∧ (asN (Row.mk [Value.string (ByteArray.mk #[(97 : UInt8)]), Value.string (ByteArray.mk #[(98 : UInt8)]), Value.string (ByteArray.mk #[(101 : UInt8), (116 : UInt8), (97 : UInt8), (103 : UInt8)]), Value.string (ByteArray.mk #[(34 : UInt8)] ++ bs g.1 ++ ByteArray.mk #[(34 : UInt8)])] true (Ob.cells true)) (Row.mk (List.take (List.length g.4 * (2 : Nat)) (List.drop (0 : Nat) (gC enF g.4))) true (Ob.cells true)) ≤ (9223372036854775807 : Nat) ∧ alB (Row.mk (List.take (asN (Row.mk [Value.string (ByteArray.mk #[(97 : UInt8)]), Value.string (ByteArray.mk #[(98 : UInt8)]), Value.string (ByteArray.mk #[(101 : UInt8), (116 : UInt8), (97 : UInt8), (103 : UInt8)]), Value.string (ByteArray.mk #[(34 : UInt8)] ++ bs g.1 ++ ByteArray.mk #[(34 : UInt8)])] true (Ob.cells true)) (Row.mk (List.take (List.length g.4 * (2 : Nat)) (List.drop (0 : Nat) (gC enF g.4))) true (Ob.cells true)) * (2 : Nat)) (List.drop (0 : Nat) (asC (Row.mk [Value.string (ByteArray.mk #[(97 : UInt8)]), Value.string (ByteArray.mk #[(98 : UInt8)]), Value.string (ByteArray.mk #[(101 : UInt8), (116 : UInt8), (97 : UInt8), (103 : UInt8)]), Value.string (ByteArray.mk #[(34 : UInt8)] ++ bs g.1 ++ ByteArray.mk #[(34 : UInt8)])] true (Ob.cells true)) (Row.mk (List.take (List.length g.4 * (2 : Nat)) (List.drop (0 : Nat) (gC enF g.4))) true (Ob.cells true))))) true (Ob.cells true)) (ByteArray.mk #[(114 : UInt8), (97 : UInt8), (110 : UInt8), (103 : UInt8), (101 : UInt8)]) ≤ (16777216 : Nat)))))) ∧
        (br (alN (Row.mk (List.take (asN (Row.mk [Value.string (ByteArray.mk #[(97 : UInt8)]), Value.string (ByteArray.mk #[(98 : UInt8)]), Value.string (ByteArray.mk #[(101 : UInt8), (116 : UInt8), (97 : UInt8), (103 : UInt8)]), Value.string (ByteArray.mk #[(34 : UInt8)] ++ bs g.1 ++ ByteArray.mk #[(34 : UInt8)])] true (Ob.cells true)) (Row.mk (List.take (List.length g.4 * (2 : Nat)) (List.drop (0 : Nat) (gC enF g.4))) true (Ob.cells true)) * (2 : Nat)) (List.drop (0 : Nat) (asC (Row.mk [Value.string (ByteArray.mk #[(97 : UInt8)]), Value.string (ByteArray.mk #[(98 : UInt8)]), Value.string (ByteArray.mk #[(101 : UInt8), (116 : UInt8), (97 : UInt8), (103 : UInt8)]), Value.string (ByteArray.mk #[(34 : UInt8)] ++ bs g.1 ++ ByteArray.mk #[(34 : UInt8)])] true (Ob.cells true)) (Row.mk (List.take (List.length g.4 * (2 : Nat)) (List.drop (0 : Nat) (gC enF g.4))) true (Ob.cells true))))) true (Ob.cells true)) (ByteArray.mk #[(105 : UInt8), (102 : UInt8), (45 : UInt8), (110 : UInt8), (111 : UInt8), (110 : UInt8), (101 : UInt8), (45 : UInt8), (109 : UInt8), (97 : UInt8), (116 : UInt8), (99 : UInt8), (104 : UInt8)]) == (1 : Int))
         (br (alN (Row.mk (List.take (asN (Row.mk [Value.string (ByteArray.mk #[(97 : UInt8)]), Value.string (ByteArray.mk #[(98 : UInt8)]), Value.string (ByteArray.mk #[(101 : UInt8), (116 : UInt8), (97 : UInt8), (103 : UInt8)]), Value.string (ByteArray.mk #[(34 : UInt8)] ++ bs g.1 ++ ByteArray.mk #[(34 : UInt8)])] true (Ob.cells true)) (Row.mk (List.take (List.length g.4 * (2 : Nat)) (List.drop (0 : Nat) (gC enF g.4))) true (Ob.cells true)) * (2 : Nat)) (List.drop (0 : Nat) (asC (Row.mk [Value.string (ByteArray.mk #[(97 : UInt8)]), Value.string (ByteArray.mk #[(98 : UInt8)]), Value.string (ByteArray.mk #[(101 : UInt8), (116 : UInt8), (97 : UInt8), (103 : UInt8)]), Value.string (ByteArray.mk #[(34 : UInt8)] ++ bs g.1 ++ ByteArray.mk #[(34 : UInt8)])] true (Ob.cells true)) (Row.mk (List.take (List.length g.4 * (2 : Nat)) (List.drop (0 : Nat) (gC enF g.4))) true (Ob.cells true))))) true (Ob.cells true)) (ByteArray.mk #[(114 : UInt8), (97 : UInt8), (110 : UInt8), (103 : UInt8), (101 : UInt8)]) == (0 : Int))
          (((((True ∧ (True ∧ (True ∧ (True ∧ (True ∧ (True ∧ (True ∧ (((4 : Nat) ≤ (4 : Nat) ∧ Plain [Value.string (ByteArray.mk #[(97 : UInt8)]), Value.string (ByteArray.mk #[(98 : UInt8)]), Value.string (ByteArray.mk #[(101 : UInt8), (116 : UInt8), (97 : UInt8), (103 : UInt8)]), Value.string (ByteArray.mk #[(34 : UInt8)] ++ bs g.1 ++ ByteArray.mk #[(34 : UInt8)])]) ∧ (True ∧ (True ∧ (True ∧ (True ∧ True)))))))))))) ∧ ((True ∧ (True ∧ (True ∧ (True ∧ (((0 : Nat) + asN (Row.mk [Value.string (ByteArray.mk #[(97 : UInt8)]), Value.string (ByteArray.mk #[(98 : UInt8)]), Value.string (ByteArray.mk #[(101 : UInt8), (116 : UInt8), (97 : UInt8), (103 : UInt8)]), Value.string (ByteArray.mk #[(34 : UInt8)] ++ bs g.1 ++ ByteArray.mk #[(34 : UInt8)])] true (Ob.cells true)) (Row.mk (List.take (List.length g.4 * (2 : Nat)) (List.drop (0 : Nat) (gC enF g.4))) true (Ob.cells true)) * (2 : Nat) ≤ List.length (asC (Row.mk [Value.string (ByteArray.mk #[(97 : UInt8)]), Value.string (ByteArray.mk #[(98 : UInt8)]), Value.string (ByteArray.mk #[(101 : UInt8), (116 : UInt8), (97 : UInt8), (103 : UInt8)]), Value.string (ByteArray.mk #[(34 : UInt8)] ++ bs g.1 ++ ByteArray.mk #[(34 : UInt8)])] true (Ob.cells true)) (Row.mk (List.take (List.length g.4 * (2 : Nat)) (List.drop (0 : Nat) (gC enF g.4))) true (Ob.cells true))) ∧ Plain (List.take (asN (Row.mk [Value.string (ByteArray.mk #[(97 : UInt8)]), Value.string (ByteArray.mk #[(98 : UInt8)]), Value.string (ByteArray.mk #[(101 : UInt8), (116 : UInt8), (97 : UInt8), (103 : UInt8)]), Value.string (ByteArray.mk #[(34 : UInt8)] ++ bs g.1 ++ ByteArray.mk #[(34 : UInt8)])] true (Ob.cells true)) (Row.mk (List.take (List.length g.4 * (2 : Nat)) (List.drop (0 : Nat) (gC enF g.4))) true (Ob.cells true)) * (2 : Nat)) (List.drop (0 : Nat) (asC (Row.mk [Value.string (ByteArray.mk #[(97 : UInt8)]), Value.string (ByteArray.mk #[(98 : UInt8)]), Value.string (ByteArray.mk #[(101 : UInt8), (116 : UInt8), (97 : UInt8), (103 : UInt8)]), Value.string (ByteArray.mk #[(34 : UInt8)] ++ bs g.1 ++ ByteArray.mk #[(34 : UInt8)])] true (Ob.cells true)) (Row.mk (List.take (List.length g.4 * (2 : Nat)) (List.drop (0 : Nat) (gC enF g.4))) true (Ob.cells true)))))) ∧ (True ∧ True)))))) ∧ True)) ∧ (True ∧ (IsF (Row.mk [] true (Ob.cells true)) (0 : Nat) ∧ (IsF (Row.mk [Value.string (ByteArray.mk #[(97 : UInt8)]), Value.string (ByteArray.mk #[(98 : UInt8)]), Value.string (ByteArray.mk #[(101 : UInt8), (116 : UInt8), (97 : UInt8), (103 : UInt8)]), Value.string (ByteArray.mk #[(34 : UInt8)] ++ bs g.1 ++ ByteArray.mk #[(34 : UInt8)])] true (Ob.cells true)) (2 : Nat) ∧ (IsF (Row.mk (List.take (asN (Row.mk [Value.string (ByteArray.mk #[(97 : UInt8)]), Value.string (ByteArray.mk #[(98 : UInt8)]), Value.string (ByteArray.mk #[(101 : UInt8), (116 : UInt8), (97 : UInt8), (103 : UInt8)]), Value.string (ByteArray.mk #[(34 : UInt8)] ++ bs g.1 ++ ByteArray.mk #[(34 : UInt8)])] true (Ob.cells true)) (Row.mk (List.take (List.length g.4 * (2 : Nat)) (List.drop (0 : Nat) (gC enF g.4))) true (Ob.cells true)) * (2 : Nat)) (List.drop (0 : Nat) (asC (Row.mk [Value.string (ByteArray.mk #[(97 : UInt8)]), Value.string (ByteArray.mk #[(98 : UInt8)]), Value.string (ByteArray.mk #[(101 : UInt8), (116 : UInt8), (97 : UInt8), (103 : UInt8)]), Value.string (ByteArray.mk #[(34 : UInt8)] ++ bs g.1 ++ ByteArray.mk #[(34 : UInt8)])] true (Ob.cells true)) (Row.mk (List.take (List.length g.4 * (2 : Nat)) (List.drop (0 : Nat) (gC enF g.4))) true (Ob.cells true))))) true (Ob.cells true)) (asN (Row.mk [Value.string (ByteArray.mk #[(97 : UInt8)]), Value.string (ByteArray.mk #[(98 : UInt8)]), Value.string (ByteArray.mk #[(101 : UInt8), (116 : UInt8), (97 : UInt8), (103 : UInt8)]), Value.string (ByteArray.mk #[(34 : UInt8)] ++ bs g.1 ++ ByteArray.mk #[(34 : UInt8)])] true (Ob.cells true)) (Row.mk (List.take (List.length g.4 * (2 : Nat)) (List.drop (0 : Nat) (gC enF g.4))) true (Ob.cells true))) ∧ ((0 : Nat) ≤ maxLen ∧ ((2 : Nat) ≤ maxLen ∧ (asN (Row.mk [Value.string (ByteArray.mk #[(97 : UInt8)]), Value.string (ByteArray.mk #[(98 : UInt8)]), Value.string (ByteArray.mk #[(101 : UInt8), (116 : UInt8), (97 : UInt8), (103 : UInt8)]), Value.string (ByteArray.mk #[(34 : UInt8)] ++ bs g.1 ++ ByteArray.mk #[(34 : UInt8)])] true (Ob.cells true)) (Row.mk (List.take (List.length g.4 * (2 : Nat)) (List.drop (0 : Nat) (gC enF g.4))) true (Ob.cells true)) ≤ (9223372036854775807 : Nat) ∧ (BigW1 (Row.mk [Value.string (ByteArray.mk #[(97 : UInt8)]), Value.string (ByteArray.mk #[(98 : UInt8)]), Value.string (ByteArray.mk #[(101 : UInt8), (116 : UInt8), (97 : UInt8), (103 : UInt8)]), Value.string (ByteArray.mk #[(34 : UInt8)] ++ bs g.1 ++ ByteArray.mk #[(34 : UInt8)])] true (Ob.cells true)) ∧ BigW1 (Row.mk (List.take (asN (Row.mk [Value.string (ByteArray.mk #[(97 : UInt8)]), Value.string (ByteArray.mk #[(98 : UInt8)]), Value.string (ByteArray.mk #[(101 : UInt8), (116 : UInt8), (97 : UInt8), (103 : UInt8)]), Value.string (ByteArray.mk #[(34 : UInt8)] ++ bs g.1 ++ ByteArray.mk #[(34 : UInt8)])] true (Ob.cells true)) (Row.mk (List.take (List.length g.4 * (2 : Nat)) (List.drop (0 : Nat) (gC enF g.4))) true (Ob.cells true)) * (2 : Nat)) (List.drop (0 : Nat) (asC (Row.mk [Value.string (ByteArray.mk #[(97 : UInt8)]), Value.string (ByteArray.mk #[(98 : UInt8)]), Value.string (ByteArray.mk #[(101 : UInt8), (116 : UInt8), (97 : UInt8), (103 : UInt8)]), Value.string (ByteArray.mk #[(34 : UInt8)] ++ bs g.1 ++ ByteArray.mk #[(34 : UInt8)])] true (Ob.cells true)) (Row.mk (List.take (List.length g.4 * (2 : Nat)) (List.drop (0 : Nat) (gC enF g.4))) true (Ob.cells true))))) true (Ob.cells true)))))))))))) ∧
          (br (samR (Row.mk [Value.string (ByteArray.mk #[(97 : UInt8)]), Value.string (ByteArray.mk #[(98 : UInt8)]), Value.string (ByteArray.mk #[(101 : UInt8), (116 : UInt8), (97 : UInt8), (103 : UInt8)]), Value.string (ByteArray.mk #[(34 : UInt8)] ++ bs g.1 ++ ByteArray.mk #[(34 : UInt8)])] true (Ob.cells true)) (Row.mk (List.take (asN (Row.mk [Value.string (ByteArray.mk #[(97 : UInt8)]), Value.string (ByteArray.mk #[(98 : UInt8)]), Value.string (ByteArray.mk #[(101 : UInt8), (116 : UInt8), (97 : UInt8), (103 : UInt8)]), Value.string (ByteArray.mk #[(34 : UInt8)] ++ bs g.1 ++ ByteArray.mk #[(34 : UInt8)])] true (Ob.cells true)) (Row.mk (List.take (List.length g.4 * (2 : Nat)) (List.drop (0 : Nat) (gC enF g.4))) true (Ob.cells true)) * (2 : Nat)) (List.drop (0 : Nat) (asC (Row.mk [Value.string (ByteArray.mk #[(97 : UInt8)]), Value.string (ByteArray.mk #[(98 : UInt8)]), Value.string (ByteArray.mk #[(101 : UInt8), (116 : UInt8), (97 : UInt8), (103 : UInt8)]), Value.string (ByteArray.mk #[(34 : UInt8)] ++ bs g.1 ++ ByteArray.mk #[(34 : UInt8)])] true (Ob.cells true)) (Row.mk (List.take (List.length g.4 * (2 : Nat)) (List.drop (0 : Nat) (gC enF g.4))) true (Ob.cells true))))) true (Ob.cells true)))
           (br (strEq g.3.1 g.3.1)
            (br (strEq g.3.4 g.3.4)
             (((True ∧ (True ∧ True))) ∧
             ((true = true) ∧
             ((Eq (α := List Value) (gC enF q) (gC enF g.4)) ∧
             ((Plain (gC enF q)) ∧
             True))))
             ((true = false) ∧
             ((Eq (α := List Value) (gC enF q) (gC enF g.4)) ∧
             ((Plain (gC enF q)) ∧
             True))))
            ((true = false) ∧
            ((Eq (α := List Value) (gC enF q) (gC enF g.4)) ∧
            ((Plain (gC enF q)) ∧
            True))))
           ((true = false) ∧
           ((Eq (α := List Value) (gC enF q) (gC enF g.4)) ∧
           ((Plain (gC enF q)) ∧
           True)))))
          ((true = false) ∧
          ((Eq (α := List Value) (gC enF q) (gC enF g.4)) ∧
          ((Plain (gC enF q)) ∧
          True))))
         ((true = false) ∧
         ((Eq (α := List Value) (gC enF q) (gC enF g.4)) ∧
         ((Plain (gC enF q)) ∧
         True))))))))
       False)
      False)))
     (∀ (y2 : Unit), ((True) →
     ((true = true) ∧
     ((Eq (α := List Value) (gC enF q) (gC enF g.4)) ∧
     ((Plain (gC enF q)) ∧
     True))))))))))))))))))))))))) := by kernel_rfl
theorem cAk_ok : ∀ f a rows p v news, cAk f a rows = some (p, v, news) → p → Con Try.prog f a rows v (rows ++ news) := by
  intro f a rows p v news h hp
  have e : ∀ l, decF (gRo enF l).cells = l := fun l => decF_gC l
  unfold cAk at h
  split at h
  · simp only [Option.some.injEq, Prod.mk.injEq] at h
    obtain ⟨rfl, rfl, rfl⟩ := h
    obtain ⟨⟨l0, rfl, rfl⟩, ⟨l1, rfl, rfl⟩, ⟨l2, rfl, rfl⟩, h0, h1, h2, b1⟩ := hp
    simp only [BigW1, asN, asC, asB, e] at b1 ⊢
    exact As_con ⟨_, _, _, _, _, _, _, _, _, _⟩ ⟨_, _, _, _, _⟩ l0 l1 l2 h0 h1 h2 b1
  · simp only [Option.some.injEq, Prod.mk.injEq] at h
    obtain ⟨rfl, rfl, rfl⟩ := h
    obtain ⟨⟨l, rfl, rfl⟩, h1, h2⟩ := hp
    simp only [alV, alN, alB, e, List.append_nil] at h2 ⊢
    exact Ra_con l (L _) h1 h2
  · simp only [Option.some.injEq, Prod.mk.injEq] at h
    obtain ⟨rfl, rfl, rfl⟩ := h
    obtain ⟨⟨l, rfl, rfl⟩, h1, h2⟩ := hp
    simp only [ShR, lgR, e, List.append_nil] at h2 ⊢
    exact Lg_con l h1 h2
  · exact cTg_ok _ _ _ _ _ _ h hp
theorem Ak_piece : PieceOk EAk 1 (6, pAk, specAk) := by
  refine piece_loop mixed (calls_envC cAk_ok) (lok_envC _ _ _) lm_none (n := 60) (by kernel_rfl) (fun _ : GAk => (0 : Nat)) (fun g i => i ≤ g.a.length ∧ tgL (g.a.take i) = true) (fun g i => g.a.length - i) (sl := slAk) (rl := fun g _ => rlAk g) (fun g hg => ⟨Nat.zero_le _, rfl⟩) (fun g i hg hi => ?_)
  refine (Ak_round g i _ _).mpr ?_
  obtain ⟨h1, h2⟩ := hi
  simp only [ofNat_eq, toNat_cast, Nat.zero_add, Nat.add_zero, Nat.mul_one, List.drop_zero, bCells_len, bCells_drop, bCells_take, bCells_app, bCells_one, bCells_plain, List.length_replicate, List.length_append, List.length_take, List.length_drop, List.take_length, and_true, true_and, and_self, decide_true, List.length_nil, List.length_cons, Nat.sub_zero, dB_mk, dB_ro, List.take_zero, bs_dd, fPl, and_true]
  have hg' : g.a.length ≤ 60 := hg
  refine br_if (fun h => br_dec (by omega) ?_) (fun h => ⟨(), by rw [List.take_of_length_le (by omega)] at h2; exact h2⟩)
  have hi : i < g.a.length := by omega
  rw [byteAt_bs hi]
  have w := i64_succ (show i < 9223372036854775807 by omega)
  have ht : g.a.take (i + 1) = g.a.take i ++ [g.a[i]] := List.take_succ_eq_append_getElem hi
  generalize g.a[i] = c at *
  rw [w]
  refine br_if (fun _ => ⟨(), trivial⟩) (fun k1 => br_dec (by omega) (br_if (fun _ => ⟨(), trivial⟩) (fun k2 => br_dec (by omega) (br_intro (fun _ => ⟨(), trivial⟩) (fun k3 => br_dec (by omega) (br_intro (fun _ => ⟨(), trivial⟩) (fun k4 => ⟨i + 1, ⟨by omega, ?_⟩, by omega, rfl⟩)))))))
  have n3 : c ≠ 34 := fun e => by rw [e] at k3; simp at k3
  have n4 : c ≠ 92 := fun e => by rw [e] at k4; simp at k4
  rw [ht]; unfold tgL at h2 ⊢; rw [List.all_append, h2]
  simp [tgC, n3, n4]; omega
theorem kept_n (x : List UInt8) (h : cndL x = true) : ∀ q : List Fl, allN x (keptL q) = 0
  | [] => rfl
  | f :: q => by
    unfold keptL
    rw [List.filter_cons]
    split
    · rename_i k
      rw [allN_cons, if_neg (fun e => by rw [e, h] at k; simp at k)]
      exact kept_n x h q
    · exact kept_n x h q
theorem kept_lg : ∀ q : List Fl, lgN (keptL q) ≤ lgN q
  | [] => Nat.le_refl _
  | f :: q => by
    unfold keptL
    have := kept_lg q
    unfold keptL at this
    rw [List.filter_cons, lgN]
    split
    · rw [lgN]; omega
    · omega
theorem strEq_self (s : ByteArray) : strEq s s = true := by
  have := strEq_bs (L s) (L s)
  rw [bsL] at this; rw [this]; simp
theorem ask_law (tag : ByteArray) (w : Bool) (qm qs qa qp : ByteArray) (q : List Fl) (qk at_ : Int)
    (_ : tag.size ≤ 1048576) (z6 : qm.size ≤ 1048576) (z7 : qs.size ≤ 1048576) (z8 : qa.size ≤ 1048576) (z9 : qp.size ≤ 1048576) (hq : q.length ≤ 1048576) (hq2 : ∀ f ∈ q, f.n.length ≤ 1048576 ∧ f.v.length ≤ 1048576) (i6 : I64 qk) (i7 : I64 at_) :
    Con Try.prog 6 [.string tag, .bool w, .agg ⟨rqCy ⟨qm, qs, qa, qp, qk⟩ 0 q.length⟩, .int .i64 at_] [gRo enF q] (.bool true) [gRo enF q] := by
  obtain ⟨a, rfl⟩ : ∃ l, tag = bs l := ⟨L tag, rfl⟩
  refine con_vc (E := EAk) mixed (calls_envC cAk_ok) (lok_envC _ _ _) (M := mAk) (lm_one Ak_piece) (Ak_vc a w ⟨qm, qs, qa, qp, qk⟩ q at_) ?_
  have hm : maxLen = 9223372036854775807 := by unfold maxLen; rfl
  have m2 : ∀ (l : List Fl) b o, lgR ⟨gC enF l, b, o⟩ = lgB l := fun l b o => by unfold lgR; simp only; rw [decF_gC]
  have m3 : ∀ (l : List Fl) b o, (∀ f ∈ l, f.n.length ≤ 1048576 ∧ f.v.length ≤ 1048576) → ShR ⟨gC enF l, b, o⟩ := fun l b o h => by unfold ShR; simp only; rw [decF_gC]; exact h
  simp only [ofNat_eq, toNat_cast, Nat.zero_add, Nat.add_zero, Nat.mul_one, List.drop_zero, bCells_len, bCells_drop, bCells_take, bCells_app, bCells_one, bCells_plain, List.length_replicate, List.length_append, List.length_take, List.length_drop, List.take_length, and_true, true_and, and_self, decide_true, List.length_nil, List.length_cons, Nat.sub_zero, dB_mk, dB_ro, List.take_zero, bs_dd, fTake, fPl, fLen, and_true, true_and, m2]
  refine ⟨⟨by omega, isF_mk _ _ rfl, by omega, m3 _ _ _ hq2⟩, br_intro (fun _ => trivial) (fun hl => br_if (fun _ => trivial) (fun ha => ⟨⟨a, w, ⟨qm, qs, qa, qp, qk⟩, q⟩, by simp only; omega, rfl, rfl, rfl, rfl, rfl, rfl, rfl, rfl, rfl, br_side (fun _ t1 => ?_) (fun _ _ => by trivial)⟩))⟩
  have t1 : tgL a = true := t1
  have t2 : a.length ≤ 60 := by omega
  have hl : lgN q ≤ 2000 := by have : lgB q = true := by simpa using hl
                               unfold lgB at this; simpa using this
  simp only
  simp (disch := omega) only [brT]
  have q1 : (⟨#[101, 116, 97, 103]⟩ : ByteArray) = bs sEtag := rfl
  have q2 : (⟨#[105, 102, 45, 110, 111, 110, 101, 45, 109, 97, 116, 99, 104]⟩ : ByteArray) = bs sInm := rfl
  have q3 : (⟨#[34]⟩ : ByteArray) = bs [34] := rfl
  have q4 : (⟨#[87, 47]⟩ : ByteArray) = bs [87, 47] := rfl
  have q5 : (⟨#[114, 97, 110, 103, 101]⟩ : ByteArray) = bs sRg := rfl
  have q6 : (⟨#[97]⟩ : ByteArray) = bs [97] := rfl
  have q7 : (⟨#[98]⟩ : ByteArray) = bs [98] := rfl
  have hF : ∀ x : List UInt8, [Value.string (bs [97]), .string (bs [98]), .string (bs sEtag), .string (bs x)] = gC enF [⟨[97], [98]⟩, ⟨sEtag, x⟩] := fun x => rfl
  have n1 : ∀ (a b : List Fl) x y o p, asN ⟨gC enF a, x, o⟩ ⟨gC enF b, y, p⟩ = (askL a b).length := fun a b x y o p => by unfold asN; simp only; rw [decF_gC, decF_gC]
  have n2 : ∀ (a b : List Fl) x y o p, asC ⟨gC enF a, x, o⟩ ⟨gC enF b, y, p⟩ = gC enF (askL a b) := fun a b x y o p => by unfold asC; simp only; rw [decF_gC, decF_gC]
  have n3 : ∀ (a : List Fl) x o, asB ⟨gC enF a, x, o⟩ = askB a := fun a x o => by unfold asB; simp only; rw [decF_gC]
  have m1 : ∀ (a b : List Fl) x y o p, samR ⟨gC enF a, x, o⟩ ⟨gC enF b, y, p⟩ = samL a b := fun a b x y o p => by unfold samR; simp only; rw [decF_gC, decF_gC]
  have a1 : ∀ (l : List Fl) b o nm, alB ⟨gC enF l, b, o⟩ (bs nm) = (allL l nm).length := fun l b o nm => by unfold alB; simp only; rw [decF_gC, L_bs]
  have a2 : ∀ (l : List Fl) b o nm, alN ⟨gC enF l, b, o⟩ (bs nm) = (allN nm l : Nat) := fun l b o nm => by unfold alN; simp only; rw [decF_gC, L_bs]
  have b1 : ∀ (l : List Fl) b o, BigW1 ⟨gC enF l, b, o⟩ = BigW l := fun l b o => by unfold BigW1; simp only; rw [decF_gC]
  obtain ⟨X, hX⟩ : ∃ X, X = tagX w a := ⟨_, rfl⟩
  have hx : X.length ≤ 70 := by rw [hX]; cases w <;> simp [tagX] <;> omega
  have o1 : onB sEtag [⟨[97], [98]⟩, ⟨sEtag, X⟩] = true := by unfold onB; rw [show allN sEtag [⟨[97], [98]⟩, ⟨sEtag, X⟩] = 1 from rfl]; rfl
  have o2 : onB sLmod [⟨[97], [98]⟩, ⟨sEtag, X⟩] = false := by unfold onB; rw [show allN sLmod [⟨[97], [98]⟩, ⟨sEtag, X⟩] = 0 from rfl]; rfl
  have o3 : onL sEtag [⟨[97], [98]⟩, ⟨sEtag, X⟩] = X := by unfold onL; rw [o1]; rfl
  have o4 : askB [⟨[97], [98]⟩, ⟨sEtag, X⟩] = true := by unfold askB; rw [o1]; rfl
  have o5 : askL [⟨[97], [98]⟩, ⟨sEtag, X⟩] q = keptL q ++ [⟨sInm, X⟩] := by unfold askL; rw [o4, o1, o2, o3]; simp
  have p1 : allN sInm (keptL q ++ [⟨sInm, X⟩]) = 1 := by rw [allN_app, kept_n sInm (by decide)]; rfl
  have p2 : allN sRg (keptL q ++ [⟨sInm, X⟩]) = 0 := by rw [allN_app, kept_n sRg (by decide)]; rfl
  have p3 : allL (keptL q ++ [⟨sInm, X⟩]) sInm = X := by rw [all_app, if_pos (kept_n sInm (by decide) q)]; rfl
  have p4 : samL [⟨[97], [98]⟩, ⟨sEtag, X⟩] (keptL q ++ [⟨sInm, X⟩]) = true := by
    unfold samL
    rw [if_neg (by rw [p1]; omega), p3, o1, o3, hX, el_tag w a t1]
    simp [tag_ok]
  have p5 : lgN (keptL q ++ [⟨sInm, X⟩]) ≤ 3000 := by
    have := kept_lg q
    rw [lgN_app, lgN, lgN]; unfold fOn; simp only [show sInm.length = 13 from rfl]; omega
  have p6 : BigW (keptL q ++ [⟨sInm, X⟩]) := fun x => by have := allL_le (keptL q ++ [⟨sInm, X⟩]) x; omega
  have p7 : BigW [⟨[97], [98]⟩, ⟨sEtag, X⟩] := fun x => by
    have := allL_le [⟨[97], [98]⟩, ⟨sEtag, X⟩] x
    have h2 : lgN [⟨[97], [98]⟩, ⟨sEtag, X⟩] = 3 + (4 + X.length + 1) := by unfold lgN lgN lgN fOn; simp [sEtag]
    omega
  have p8 := lgN_len (keptL q ++ [⟨sInm, X⟩])
  have p9 := p6 sInm
  have p10 := p6 sRg
  cases w <;> simp only [br_ff, br_tt2, q1, q2, q3, q4, q5, q6, q7, bs_app, tx0, tx1, ← hX, hF, n1, n2, n3, m1, a1, a2, b1, o4, o5, p1, p2, p4, fPl, fLen, fTake, and_true, true_and, strEq_self] <;>
    exact ⟨⟨⟨by omega, by omega⟩, ⟨[], rfl, rfl⟩, isF_mk _ _ rfl, isF_mk _ _ rfl, by omega, by omega, by omega, p7⟩, ⟨by omega, isF_mk _ _ rfl, by omega, by omega⟩, ⟨by omega, isF_mk _ _ rfl, by omega, by omega⟩, br_b rfl (br_b rfl ⟨⟨by omega, by omega⟩, ⟨[], rfl, rfl⟩, isF_mk _ _ rfl, isF_mk _ _ rfl, by omega, by omega, by omega, p7, p6⟩)⟩
end Go.Proofs.Ythkidlkcjohppaa.tk
