/- The law: a field that vary doesn't name changes nothing. -/
import Derived.Test.YthmjapgfnpjgnaaSz9
import Derived.Test.YthmjapgfnpjgnaaRows
import Derived.Test.YthmjapgfnpjgnaaLlawVary
import Derived.Test.YthmjapgfnpjgnaaLwit
set_option linter.unusedSimpArgs false
set_option linter.unusedVariables false
namespace Go.Proofs.Ythmjapgfnpjgnaa.tk
open Go Go.Ev Go.Sy Go.RowKit Go.Proofs.Ythmjapgfnpjgnaa.gl
noncomputable def cVx : FuncId → List Value → List Row → Option (Prop × Value × List Row)
  | 18, [.int .i64 n, .int .i64 lo, .int .i64 hi], [] => some (I64 n ∧ -1000000000000 ≤ lo ∧ lo ≤ hi ∧ hi ≤ 1000000000000, .int .i64 (inside n lo hi), [])
  | f, a, rows => cVr f a rows
def kVx (f : FuncId) : Bool := Nat.beq f 18 || kVr f
noncomputable abbrev EVx : Env := envC Try.prog cVx kVx
structure GVx where
  x : EnX
  y : RqX
  e : List Fl
  r : List Fl
  q : List Fl
  nm : List UInt8
  vl : List UInt8
  at_ : Int
  ns : List (List UInt8)
  star : Bool
def inN (g : GVx) (i : Nat) : Bool := decide (g.nm ∈ g.ns.take i)
def pVx : List Nat := [0, 1, 0, 1, 1, 1, 1]
def slVx0 (g : GVx) : List (Nat × Value) := [(2, .string (bs g.nm)), (3, .string (bs g.vl)), (4, .int .i64 g.at_), (5, .pointer (some ⟨3, 0, none⟩)), (6, .pointer (some ⟨4, 0, none⟩)), (12, .bool g.star)]
def slVx (g : GVx) (i : Nat) : List (Nat × Value) := (11, .slice (some ⟨5, 0, none⟩) g.ns.length 1) :: (13, .bool (inN g i)) :: (14, .int .i64 (i : Nat)) :: slVx0 g
def rlVx0 (g : GVx) : List (Nat × Row) := [(0, gRo enF g.e), (1, gRo enF g.r), (2, gRo enF g.q), (3, ⟨enCells g.x 0 g.e.length 1 g.r.length, false, .cells false⟩), (4, ⟨rqCells g.y 2 g.q.length, false, .cells false⟩)]
def rlVx (g : GVx) : List (Nat × Row) := [(0, gRo enF g.e), (1, gRo enF g.r), (2, gRo enF g.q), (3, ⟨enCells g.x 0 g.e.length 1 g.r.length, false, .cells false⟩), (4, ⟨rqCells g.y 2 g.q.length, false, .cells false⟩), (5, gOwn enS g.ns)]
def wsVx (g : GVx) : List (Gate Bool) := [⟨.exit 0, fun b => b = decide (g.nm ∈ g.ns), fun b => (13, .bool b) :: slVx0 g, fun _ => rlVx0 g, 5⟩]
def specVx : Sy.Spec := specOf 3 6 134 (fun g : GVx => g.ns.length ≤ 16777216) (fun g => slVx g 0) rlVx wsVx
def mVx := mOf [(6, pVx, specVx)]
theorem Vx_round (g : GVx) (i : Nat) (Inv : Nat → Prop) (m : Nat → Nat) : mev EVx noM 60 6 (0 :: pVx) false (codeOf Try.prog 6 (0 :: pVx)) ⟨mkOv (slVx g i), 134, []⟩ none ⟨mkR (rlVx g), 6⟩ (roundK 3 6 134 Inv m (slVx g) (fun _ => rlVx g) (wsVx g) i) =
  (br (decide ((↑i : Int) < Int.ofNat (List.length g.9)))
   (br (inN g i)
    (∃ j : Nat, ((Inv j) ∧
    ((m j < m i) ∧
    (((0 : Nat) = (0 : Nat)) ∧
    ((List.length g.9 = List.length g.9) ∧
    ((inN g j = true) ∧
    (((↑j : Int) = IntKind.wrap IntKind.i64 ((↑i : Int) + (1 : Int))) ∧
    ((bs g.6 = bs g.6) ∧
    ((bs g.7 = bs g.7) ∧
    ((g.8 = g.8) ∧
    (((0 : Nat) = (0 : Nat)) ∧
    (((0 : Nat) = (0 : Nat)) ∧
    ((g.10 = g.10) ∧
    ((Eq (α := List Value) (gC enF g.3) (gC enF g.3)) ∧
    ((Plain (gC enF g.3)) ∧
    ((Eq (α := List Value) (gC enF g.4) (gC enF g.4)) ∧
    ((Plain (gC enF g.4)) ∧
    ((Eq (α := List Value) (gC enF g.5) (gC enF g.5)) ∧
    ((Plain (gC enF g.5)) ∧
    ((g.1.1 = g.1.1) ∧
    ((g.1.2 = g.1.2) ∧
    ((g.1.3 = g.1.3) ∧
    ((g.1.4 = g.1.4) ∧
    (((0 : Nat) = (0 : Nat)) ∧
    ((List.length g.3 = List.length g.3) ∧
    ((g.1.5 = g.1.5) ∧
    ((g.1.6 = g.1.6) ∧
    (((0 : Nat) = (0 : Nat)) ∧
    ((List.length g.4 = List.length g.4) ∧
    ((g.1.7 = g.1.7) ∧
    ((g.1.8 = g.1.8) ∧
    ((g.1.9 = g.1.9) ∧
    ((g.1.10 = g.1.10) ∧
    ((g.2.1 = g.2.1) ∧
    ((g.2.2 = g.2.2) ∧
    ((g.2.3 = g.2.3) ∧
    ((g.2.4 = g.2.4) ∧
    (((0 : Nat) = (0 : Nat)) ∧
    ((List.length g.5 = List.length g.5) ∧
    ((g.2.5 = g.2.5) ∧
    ((Eq (α := List Value) (gC enS g.9) (gC enS g.9)) ∧
    ((Plain (gC enS g.9)) ∧
    True))))))))))))))))))))))))))))))))))))))))))
    (br (decide ((0 : Int) ≤ (↑i : Int) ∧ (↑i : Int) < (↑(List.length g.9) : Int)))
     ((Eq (α := Option Value) ((gC enS g.9)[(0 : Nat) + Int.toNat (↑i : Int) * (1 : Nat)]?) (some (Value.string (cellS (gC enS g.9) ((0 : Nat) + Int.toNat (↑i : Int) * (1 : Nat)))))) ∧
     (∃ j : Nat, ((Inv j) ∧
     ((m j < m i) ∧
     (((0 : Nat) = (0 : Nat)) ∧
     ((List.length g.9 = List.length g.9) ∧
     ((inN g j = strEq (cellS (gC enS g.9) ((0 : Nat) + Int.toNat (↑i : Int) * (1 : Nat))) (bs g.6)) ∧
     (((↑j : Int) = IntKind.wrap IntKind.i64 ((↑i : Int) + (1 : Int))) ∧
     ((bs g.6 = bs g.6) ∧
     ((bs g.7 = bs g.7) ∧
     ((g.8 = g.8) ∧
     (((0 : Nat) = (0 : Nat)) ∧
     (((0 : Nat) = (0 : Nat)) ∧
     ((g.10 = g.10) ∧
     ((Eq (α := List Value) (gC enF g.3) (gC enF g.3)) ∧
     ((Plain (gC enF g.3)) ∧
     ((Eq (α := List Value) (gC enF g.4) (gC enF g.4)) ∧
     ((Plain (gC enF g.4)) ∧
     ((Eq (α := List Value) (gC enF g.5) (gC enF g.5)) ∧
     ((Plain (gC enF g.5)) ∧
     ((g.1.1 = g.1.1) ∧
     ((g.1.2 = g.1.2) ∧
     ((g.1.3 = g.1.3) ∧
     ((g.1.4 = g.1.4) ∧
     (((0 : Nat) = (0 : Nat)) ∧
     ((List.length g.3 = List.length g.3) ∧
     ((g.1.5 = g.1.5) ∧
     ((g.1.6 = g.1.6) ∧
     (((0 : Nat) = (0 : Nat)) ∧
     ((List.length g.4 = List.length g.4) ∧
     ((g.1.7 = g.1.7) ∧
     ((g.1.8 = g.1.8) ∧
     ((g.1.9 = g.1.9) ∧
     ((g.1.10 = g.1.10) ∧
     ((g.2.1 = g.2.1) ∧
     ((g.2.2 = g.2.2) ∧
     ((g.2.3 = g.2.3) ∧
     ((g.2.4 = g.2.4) ∧
     (((0 : Nat) = (0 : Nat)) ∧
     ((List.length g.5 = List.length g.5) ∧
     ((g.2.5 = g.2.5) ∧
     ((Eq (α := List Value) (gC enS g.9) (gC enS g.9)) ∧
     ((Plain (gC enS g.9)) ∧
     True)))))))))))))))))))))))))))))))))))))))))))
     False))
   (∃ y : Bool, ((y = decide (g.6 ∈ g.9)) ∧
   ((y = inN g i) ∧
   ((bs g.6 = bs g.6) ∧
   ((bs g.7 = bs g.7) ∧
   ((g.8 = g.8) ∧
   (((0 : Nat) = (0 : Nat)) ∧
   (((0 : Nat) = (0 : Nat)) ∧
   ((g.10 = g.10) ∧
   ((Eq (α := List Value) (gC enF g.3) (gC enF g.3)) ∧
   ((Plain (gC enF g.3)) ∧
   ((Eq (α := List Value) (gC enF g.4) (gC enF g.4)) ∧
   ((Plain (gC enF g.4)) ∧
   ((Eq (α := List Value) (gC enF g.5) (gC enF g.5)) ∧
   ((Plain (gC enF g.5)) ∧
   ((g.1.1 = g.1.1) ∧
   ((g.1.2 = g.1.2) ∧
   ((g.1.3 = g.1.3) ∧
   ((g.1.4 = g.1.4) ∧
   (((0 : Nat) = (0 : Nat)) ∧
   ((List.length g.3 = List.length g.3) ∧
   ((g.1.5 = g.1.5) ∧
   ((g.1.6 = g.1.6) ∧
   (((0 : Nat) = (0 : Nat)) ∧
   ((List.length g.4 = List.length g.4) ∧
   ((g.1.7 = g.1.7) ∧
   ((g.1.8 = g.1.8) ∧
   ((g.1.9 = g.1.9) ∧
   ((g.1.10 = g.1.10) ∧
   ((g.2.1 = g.2.1) ∧
   ((g.2.2 = g.2.2) ∧
   ((g.2.3 = g.2.3) ∧
   ((g.2.4 = g.2.4) ∧
   (((0 : Nat) = (0 : Nat)) ∧
   ((List.length g.5 = List.length g.5) ∧
   ((g.2.5 = g.2.5) ∧
   True))))))))))))))))))))))))))))))))))))) := by kernel_rfl
theorem Vx_vc (x : EnX) (y : RqX) (e r q : List Fl) (nm vl : List UInt8) (at_ : Int) : mcall EVx mVx 60 6 [.agg ⟨enCells x 0 e.length 1 r.length⟩, .agg ⟨rqCells y 2 q.length⟩, .string (bs nm), .string (bs vl), .int .i64 at_] ⟨mkR (nums 0 [gRo enF e, gRo enF r, gRo enF q]), 3⟩ (retIs 3 (.bool true) [gRo enF e, gRo enF r, gRo enF q]) =
  ((((((0 : Nat) + List.length e * (2 : Nat) ≤ List.length (gC enF e) ∧ Plain (List.take (List.length e * (2 : Nat)) (List.drop (0 : Nat) (gC enF e)))) ∧ True) ∧ (True ∧ (IsF (Row.mk (List.take (List.length e * (2 : Nat)) (List.drop (0 : Nat) (gC enF e))) true (Ob.cells true)) (List.length e) ∧ (List.length e ≤ (1048576 : Nat) ∧ ShR (Row.mk (List.take (List.length e * (2 : Nat)) (List.drop (0 : Nat) (gC enF e))) true (Ob.cells true))))))) ∧
  (br (lgR (Row.mk (List.take (List.length e * (2 : Nat)) (List.drop (0 : Nat) (gC enF e))) true (Ob.cells true)))
   ((((((0 : Nat) + List.length r * (2 : Nat) ≤ List.length (gC enF r) ∧ Plain (List.take (List.length r * (2 : Nat)) (List.drop (0 : Nat) (gC enF r)))) ∧ True) ∧ (True ∧ (IsF (Row.mk (List.take (List.length r * (2 : Nat)) (List.drop (0 : Nat) (gC enF r))) true (Ob.cells true)) (List.length r) ∧ (List.length r ≤ (1048576 : Nat) ∧ ShR (Row.mk (List.take (List.length r * (2 : Nat)) (List.drop (0 : Nat) (gC enF r))) true (Ob.cells true))))))) ∧
   (br (lgR (Row.mk (List.take (List.length r * (2 : Nat)) (List.drop (0 : Nat) (gC enF r))) true (Ob.cells true)))
    (br (!decide (Int.ofNat (List.length x.8.1.1) ≤ (2000 : Int)))
     (((True ∧ (True ∧ True))) ∧
     ((true = true) ∧
     ((Eq (α := List Value) (gC enF e) (gC enF e)) ∧
     ((Plain (gC enF e)) ∧
     ((Eq (α := List Value) (gC enF r) (gC enF r)) ∧
     ((Plain (gC enF r)) ∧
     ((Eq (α := List Value) (gC enF q) (gC enF q)) ∧
     ((Plain (gC enF q)) ∧
     True))))))))
     ((((((0 : Nat) + List.length q * (2 : Nat) ≤ List.length (gC enF q) ∧ Plain (List.take (List.length q * (2 : Nat)) (List.drop (0 : Nat) (gC enF q)))) ∧ True) ∧ (True ∧ (IsF (Row.mk (List.take (List.length q * (2 : Nat)) (List.drop (0 : Nat) (gC enF q))) true (Ob.cells true)) (List.length q) ∧ (List.length q ≤ (1048576 : Nat) ∧ ShR (Row.mk (List.take (List.length q * (2 : Nat)) (List.drop (0 : Nat) (gC enF q))) true (Ob.cells true))))))) ∧
     (br (!lgR (Row.mk (List.take (List.length q * (2 : Nat)) (List.drop (0 : Nat) (gC enF q))) true (Ob.cells true)))
      (((True ∧ (True ∧ True))) ∧
      ((true = true) ∧
      ((Eq (α := List Value) (gC enF e) (gC enF e)) ∧
      ((Plain (gC enF e)) ∧
      ((Eq (α := List Value) (gC enF r) (gC enF r)) ∧
      ((Plain (gC enF r)) ∧
      ((Eq (α := List Value) (gC enF q) (gC enF q)) ∧
      ((Plain (gC enF q)) ∧
      True))))))))
      (br (decide (Int.ofNat (List.length (Array.toList (ByteArray.data (bs nm)))) > (60 : Int)))
       (((True ∧ (True ∧ True))) ∧
       ((true = true) ∧
       ((Eq (α := List Value) (gC enF e) (gC enF e)) ∧
       ((Plain (gC enF e)) ∧
       ((Eq (α := List Value) (gC enF r) (gC enF r)) ∧
       ((Plain (gC enF r)) ∧
       ((Eq (α := List Value) (gC enF q) (gC enF q)) ∧
       ((Plain (gC enF q)) ∧
       True))))))))
       (br (decide (Int.ofNat (List.length (Array.toList (ByteArray.data (bs vl)))) > (60 : Int)))
        (((True ∧ (True ∧ True))) ∧
        ((true = true) ∧
        ((Eq (α := List Value) (gC enF e) (gC enF e)) ∧
        ((Plain (gC enF e)) ∧
        ((Eq (α := List Value) (gC enF r) (gC enF r)) ∧
        ((Plain (gC enF r)) ∧
        ((Eq (α := List Value) (gC enF q) (gC enF q)) ∧
        ((Plain (gC enF q)) ∧
        True))))))))
        ((((((0 : Nat) + List.length r * (2 : Nat) ≤ List.length (gC enF r) ∧ Plain (List.take (List.length r * (2 : Nat)) (List.drop (0 : Nat) (gC enF r)))) ∧ True) ∧ ((Plain (stC (Row.mk (List.take (List.length r * (2 : Nat)) (List.drop (0 : Nat) (gC enF r))) true (Ob.cells true))) ∧ True) ∧ (IsF (Row.mk (List.take (List.length r * (2 : Nat)) (List.drop (0 : Nat) (gC enF r))) true (Ob.cells true)) (List.length r) ∧ (List.length r ≤ (9223372036854775807 : Nat) ∧ vaB (Row.mk (List.take (List.length r * (2 : Nat)) (List.drop (0 : Nat) (gC enF r))) true (Ob.cells true)) ≤ (16777000 : Nat)))))) ∧
        (∃ g : GVx, ((List.length g.9 ≤ (16777216 : Nat)) ∧
        (((0 : Nat) = (0 : Nat)) ∧
        ((List.length g.9 = stN (Row.mk (List.take (List.length r * (2 : Nat)) (List.drop (0 : Nat) (gC enF r))) true (Ob.cells true))) ∧
        ((inN g (0 : Nat) = false) ∧
        (((0 : Int) = (0 : Int)) ∧
        ((bs g.6 = bs nm) ∧
        ((bs g.7 = bs vl) ∧
        ((g.8 = at_) ∧
        (((0 : Nat) = (0 : Nat)) ∧
        (((0 : Nat) = (0 : Nat)) ∧
        ((g.10 = stB (Row.mk (List.take (List.length r * (2 : Nat)) (List.drop (0 : Nat) (gC enF r))) true (Ob.cells true))) ∧
        ((Eq (α := List Value) (gC enF g.3) (gC enF e)) ∧
        ((Plain (gC enF g.3)) ∧
        ((Eq (α := List Value) (gC enF g.4) (gC enF r)) ∧
        ((Plain (gC enF g.4)) ∧
        ((Eq (α := List Value) (gC enF g.5) (gC enF q)) ∧
        ((Plain (gC enF g.5)) ∧
        ((g.1.1 = x.1) ∧
        ((g.1.2 = x.2) ∧
        ((g.1.3 = x.3) ∧
        ((g.1.4 = x.4) ∧
        (((0 : Nat) = (0 : Nat)) ∧
        ((List.length g.3 = List.length e) ∧
        ((g.1.5 = x.5) ∧
        ((g.1.6 = x.6) ∧
        (((0 : Nat) = (0 : Nat)) ∧
        ((List.length g.4 = List.length r) ∧
        ((g.1.7 = x.7) ∧
        ((g.1.8 = x.8) ∧
        ((g.1.9 = x.9) ∧
        ((g.1.10 = x.10) ∧
        ((g.2.1 = y.1) ∧
        ((g.2.2 = y.2) ∧
        ((g.2.3 = y.3) ∧
        ((g.2.4 = y.4) ∧
        (((0 : Nat) = (0 : Nat)) ∧
        ((List.length g.5 = List.length q) ∧
        ((g.2.5 = y.5) ∧
        ((Eq (α := List Value) (gC enS g.9) (stC (Row.mk (List.take (List.length r * (2 : Nat)) (List.drop (0 : Nat) (gC enF r))) true (Ob.cells true)))) ∧
        ((Plain (gC enS g.9)) ∧
        (∀ (y2 : Bool), ((y2 = decide (g.6 ∈ g.9)) →
        ((((True ∧ (True ∧ (True ∧ True))) ∧ (True ∧ (I64 g.8 ∧ ((-1000000000000 : Int) ≤ (0 : Int) ∧ ((0 : Int) ≤ Int.ofNat (List.length g.5) ∧ Int.ofNat (List.length g.5) ≤ (1000000000000 : Int))))))) ∧
        (br (decide ((0 : Int) ≤ (↑(0 : Nat) : Int) ∧ (0 : Int) ≤ inside g.8 (0 : Int) (Int.ofNat (List.length g.5)) ∧ inside g.8 (0 : Int) (Int.ofNat (List.length g.5)) ≤ (↑(List.length g.5) : Int)))
         (br (decide ((0 : Nat) + (Int.toNat (inside g.8 (0 : Int) (Int.ofNat (List.length g.5))) - (0 : Nat)) * (2 : Nat) ≤ List.length (gC enF g.5)))
          (br (allOne (List.take ((Int.toNat (inside g.8 (0 : Int) (Int.ofNat (List.length g.5))) - (0 : Nat)) * (2 : Nat)) (List.drop (0 : Nat) (gC enF g.5))))
           (br (decide ((0 : Nat) + (Int.toNat (inside g.8 (0 : Int) (Int.ofNat (List.length g.5))) - (0 : Nat)) ≤ (16777216 : Nat)))
            (br (decide ((0 : Nat) < (0 : Nat) + (Int.toNat (inside g.8 (0 : Int) (Int.ofNat (List.length g.5))) - (0 : Nat)) ∨ List.length (List.flatten (List.replicate (0 : Nat) (Array.toList (Value.cells (Value.agg #[Value.string (ByteArray.mk #[]), Value.string (ByteArray.mk #[])]))))) = (0 : Nat)))
             (br (decide ((0 : Nat) + (Int.toNat (inside g.8 (0 : Int) (Int.ofNat (List.length g.5))) - (0 : Nat)) + (1 : Nat) ≤ (16777216 : Nat)))
              (br (decide ((0 : Nat) + ((0 : Nat) + (Int.toNat (inside g.8 (0 : Int) (Int.ofNat (List.length g.5))) - (0 : Nat))) * (2 : Nat) ≤ List.length ([] ++ List.take ((Int.toNat (inside g.8 (0 : Int) (Int.ofNat (List.length g.5))) - (0 : Nat)) * (2 : Nat)) (List.drop (0 : Nat) (gC enF g.5)))))
               (br (decide ((0 : Int) ≤ inside g.8 (0 : Int) (Int.ofNat (List.length g.5)) ∧ inside g.8 (0 : Int) (Int.ofNat (List.length g.5)) ≤ (↑(List.length g.5) : Int) ∧ (↑(List.length g.5) : Int) ≤ (↑(List.length g.5) : Int)))
                (br (decide ((0 : Nat) + Int.toNat (inside g.8 (0 : Int) (Int.ofNat (List.length g.5))) * (2 : Nat) + (Int.toNat (↑(List.length g.5) : Int) - Int.toNat (inside g.8 (0 : Int) (Int.ofNat (List.length g.5)))) * (2 : Nat) ≤ List.length (gC enF g.5)))
                 (br (allOne (List.take ((Int.toNat (↑(List.length g.5) : Int) - Int.toNat (inside g.8 (0 : Int) (Int.ofNat (List.length g.5)))) * (2 : Nat)) (List.drop ((0 : Nat) + Int.toNat (inside g.8 (0 : Int) (Int.ofNat (List.length g.5))) * (2 : Nat)) (gC enF g.5))))
                  (br (decide ((0 : Nat) + (Int.toNat (inside g.8 (0 : Int) (Int.ofNat (List.length g.5))) - (0 : Nat)) + (1 : Nat) + (Int.toNat (↑(List.length g.5) : Int) - Int.toNat (inside g.8 (0 : Int) (Int.ofNat (List.length g.5)))) ≤ (16777216 : Nat)))
                   (br (decide ((0 : Nat) < (0 : Nat) + (Int.toNat (inside g.8 (0 : Int) (Int.ofNat (List.length g.5))) - (0 : Nat)) + (1 : Nat) + (Int.toNat (↑(List.length g.5) : Int) - Int.toNat (inside g.8 (0 : Int) (Int.ofNat (List.length g.5)))) ∨ List.length (List.take (((0 : Nat) + (Int.toNat (inside g.8 (0 : Int) (Int.ofNat (List.length g.5))) - (0 : Nat))) * (2 : Nat)) (List.drop (0 : Nat) ([] ++ List.take ((Int.toNat (inside g.8 (0 : Int) (Int.ofNat (List.length g.5))) - (0 : Nat)) * (2 : Nat)) (List.drop (0 : Nat) (gC enF g.5)))) ++ [Value.string (bs g.6), Value.string (bs g.7)]) = (0 : Nat)))
                    (br (decide ((0 : Nat) + ((0 : Nat) + (Int.toNat (inside g.8 (0 : Int) (Int.ofNat (List.length g.5))) - (0 : Nat)) + (1 : Nat)) * (2 : Nat) ≤ List.length (List.take (((0 : Nat) + (Int.toNat (inside g.8 (0 : Int) (Int.ofNat (List.length g.5))) - (0 : Nat))) * (2 : Nat)) (List.drop (0 : Nat) ([] ++ List.take ((Int.toNat (inside g.8 (0 : Int) (Int.ofNat (List.length g.5))) - (0 : Nat)) * (2 : Nat)) (List.drop (0 : Nat) (gC enF g.5)))) ++ [Value.string (bs g.6), Value.string (bs g.7)])))
                     ((Value.slice (some (Addr.mk (2 : Nat) (0 : Nat) none)) (List.length g.5) (2 : Nat) = Value.slice (some (Addr.mk (2 : Nat) (0 : Nat) none)) (List.length g.5) (2 : Nat)) ∧
                     (br (decide ((0 : Int) ≤ (↑(0 : Nat) : Int) ∧ (0 : Int) ≤ inside g.8 (0 : Int) (Int.ofNat (List.length g.5)) ∧ inside g.8 (0 : Int) (Int.ofNat (List.length g.5)) ≤ (↑(List.length g.5) : Int)))
                      ((Value.slice (some (Addr.mk (2 : Nat) (0 : Nat) none)) (Int.toNat (inside g.8 (0 : Int) (Int.ofNat (List.length g.5))) - (0 : Nat)) (2 : Nat) = Value.slice (some (Addr.mk (2 : Nat) (0 : Nat) none)) (Int.toNat (inside g.8 (0 : Int) (Int.ofNat (List.length g.5))) - (0 : Nat)) (2 : Nat)) ∧
                      ((Value.slice (some (Addr.mk (2 : Nat) (0 : Nat) none)) (List.length g.5) (2 : Nat) = Value.slice (some (Addr.mk (2 : Nat) (0 : Nat) none)) (List.length g.5) (2 : Nat)) ∧
                      ((Value.slice (some (Addr.mk (2 : Nat) (0 : Nat) none)) (List.length g.5) (2 : Nat) = Value.slice (some (Addr.mk (2 : Nat) (0 : Nat) none)) (List.length g.5) (2 : Nat)) ∧
                      ((Value.slice (some (Addr.mk (2 : Nat) (0 : Nat) none)) (List.length g.5) (2 : Nat) = Value.slice (some (Addr.mk (2 : Nat) (0 : Nat) none)) (List.length g.5) (2 : Nat)) ∧
                      ((Value.slice (some (Addr.mk (2 : Nat) (0 : Nat) none)) (List.length g.5) (2 : Nat) = Value.slice (some (Addr.mk (2 : Nat) (0 : Nat) none)) (List.length g.5) (2 : Nat)) ∧
                      (br (decide ((0 : Int) ≤ inside g.8 (0 : Int) (Int.ofNat (List.length g.5)) ∧ inside g.8 (0 : Int) (Int.ofNat (List.length g.5)) ≤ (↑(List.length g.5) : Int) ∧ (↑(List.length g.5) : Int) ≤ (↑(List.length g.5) : Int)))
                       ((Value.slice (some (Addr.mk (2 : Nat) ((0 : Nat) + Int.toNat (inside g.8 (0 : Int) (Int.ofNat (List.length g.5))) * (2 : Nat)) none)) (Int.toNat (↑(List.length g.5) : Int) - Int.toNat (inside g.8 (0 : Int) (Int.ofNat (List.length g.5)))) (2 : Nat) = Value.slice (some (Addr.mk (2 : Nat) ((0 : Nat) + Int.toNat (inside g.8 (0 : Int) (Int.ofNat (List.length g.5))) * (2 : Nat)) none)) (Int.toNat (↑(List.length g.5) : Int) - Int.toNat (inside g.8 (0 : Int) (Int.ofNat (List.length g.5)))) (2 : Nat)) ∧
                       (br (decide ((0 : Int) ≤ inside g.8 (0 : Int) (Int.ofNat (List.length g.5)) ∧ inside g.8 (0 : Int) (Int.ofNat (List.length g.5)) ≤ (↑(List.length g.5) : Int) ∧ (↑(List.length g.5) : Int) ≤ (↑(List.length g.5) : Int)))
                        ((Value.slice (some (Addr.mk (2 : Nat) ((0 : Nat) + Int.toNat (inside g.8 (0 : Int) (Int.ofNat (List.length g.5))) * (2 : Nat)) none)) (Int.toNat (↑(List.length g.5) : Int) - Int.toNat (inside g.8 (0 : Int) (Int.ofNat (List.length g.5)))) (2 : Nat) = Value.slice (some (Addr.mk (2 : Nat) ((0 : Nat) + Int.toNat (inside g.8 (0 : Int) (Int.ofNat (List.length g.5))) * (2 : Nat)) none)) (Int.toNat (↑(List.length g.5) : Int) - Int.toNat (inside g.8 (0 : Int) (Int.ofNat (List.length g.5)))) (2 : Nat)) ∧
                        (br (decide ((0 : Int) ≤ inside g.8 (0 : Int) (Int.ofNat (List.length g.5)) ∧ inside g.8 (0 : Int) (Int.ofNat (List.length g.5)) ≤ (↑(List.length g.5) : Int) ∧ (↑(List.length g.5) : Int) ≤ (↑(List.length g.5) : Int)))
                         ((Value.slice (some (Addr.mk (2 : Nat) ((0 : Nat) + Int.toNat (inside g.8 (0 : Int) (Int.ofNat (List.length g.5))) * (2 : Nat)) none)) (Int.toNat (↑(List.length g.5) : Int) - Int.toNat (inside g.8 (0 : Int) (Int.ofNat (List.length g.5)))) (2 : Nat) = Value.slice (some (Addr.mk (2 : Nat) ((0 : Nat) + Int.toNat (inside g.8 (0 : Int) (Int.ofNat (List.length g.5))) * (2 : Nat)) none)) (Int.toNat (↑(List.length g.5) : Int) - Int.toNat (inside g.8 (0 : Int) (Int.ofNat (List.length g.5)))) (2 : Nat)) ∧
                         (br (decide ((0 : Int) ≤ inside g.8 (0 : Int) (Int.ofNat (List.length g.5)) ∧ inside g.8 (0 : Int) (Int.ofNat (List.length g.5)) ≤ (↑(List.length g.5) : Int) ∧ (↑(List.length g.5) : Int) ≤ (↑(List.length g.5) : Int)))
                          ((Value.slice (some (Addr.mk (2 : Nat) ((0 : Nat) + Int.toNat (inside g.8 (0 : Int) (Int.ofNat (List.length g.5))) * (2 : Nat)) none)) (Int.toNat (↑(List.length g.5) : Int) - Int.toNat (inside g.8 (0 : Int) (Int.ofNat (List.length g.5)))) (2 : Nat) = Value.slice (some (Addr.mk (2 : Nat) ((0 : Nat) + Int.toNat (inside g.8 (0 : Int) (Int.ofNat (List.length g.5))) * (2 : Nat)) none)) (Int.toNat (↑(List.length g.5) : Int) - Int.toNat (inside g.8 (0 : Int) (Int.ofNat (List.length g.5)))) (2 : Nat)) ∧
                          ((((((0 : Nat) + List.length g.5 * (2 : Nat) ≤ List.length (gC enF g.5) ∧ Plain (List.take (List.length g.5 * (2 : Nat)) (List.drop (0 : Nat) (gC enF g.5)))) ∧ (True ∧ True)) ∧ (True ∧ (IsF (Row.mk (List.take (List.length g.5 * (2 : Nat)) (List.drop (0 : Nat) (gC enF g.5))) true (Ob.cells true)) (List.length g.5) ∧ (List.length g.5 ≤ (9223372036854775807 : Nat) ∧ alB (Row.mk (List.take (List.length g.5 * (2 : Nat)) (List.drop (0 : Nat) (gC enF g.5))) true (Ob.cells true)) (bs g.6) ≤ (16777216 : Nat)))))) ∧
                          (((((True ∧ (True ∧ (True ∧ (True ∧ (((0 : Nat) + List.length g.3 * (2 : Nat) ≤ List.length (gC enF g.3) ∧ Plain (List.take (List.length g.3 * (2 : Nat)) (List.drop (0 : Nat) (gC enF g.3)))) ∧ (True ∧ (True ∧ (((0 : Nat) + List.length g.4 * (2 : Nat) ≤ List.length (gC enF g.4) ∧ Plain (List.take (List.length g.4 * (2 : Nat)) (List.drop (0 : Nat) (gC enF g.4)))) ∧ (True ∧ (True ∧ (True ∧ (True ∧ True)))))))))))) ∧ ((True ∧ (True ∧ (True ∧ (True ∧ (((0 : Nat) + List.length g.5 * (2 : Nat) ≤ List.length (gC enF g.5) ∧ Plain (List.take (List.length g.5 * (2 : Nat)) (List.drop (0 : Nat) (gC enF g.5)))) ∧ (True ∧ True)))))) ∧ True)) ∧ (True ∧ (IsF (Row.mk (List.take (List.length g.3 * (2 : Nat)) (List.drop (0 : Nat) (gC enF g.3))) true (Ob.cells true)) (List.length g.3) ∧ (IsF (Row.mk (List.take (List.length g.4 * (2 : Nat)) (List.drop (0 : Nat) (gC enF g.4))) true (Ob.cells true)) (List.length g.4) ∧ (IsF (Row.mk (List.take (List.length g.5 * (2 : Nat)) (List.drop (0 : Nat) (gC enF g.5))) true (Ob.cells true)) (List.length g.5) ∧ (List.length g.3 ≤ (9223372036854775807 : Nat) ∧ (List.length g.4 ≤ (9223372036854775807 : Nat) ∧ (List.length g.5 ≤ (9223372036854775807 : Nat) ∧ (BigV1 (Row.mk (List.take (List.length g.3 * (2 : Nat)) (List.drop (0 : Nat) (gC enF g.3))) true (Ob.cells true)) ∧ (BigV1 (Row.mk (List.take (List.length g.4 * (2 : Nat)) (List.drop (0 : Nat) (gC enF g.4))) true (Ob.cells true)) ∧ BigV1 (Row.mk (List.take (List.length g.5 * (2 : Nat)) (List.drop (0 : Nat) (gC enF g.5))) true (Ob.cells true))))))))))))) ∧
                          (((((True ∧ (True ∧ (True ∧ (True ∧ (((0 : Nat) + List.length g.3 * (2 : Nat) ≤ List.length (gC enF g.3) ∧ Plain (List.take (List.length g.3 * (2 : Nat)) (List.drop (0 : Nat) (gC enF g.3)))) ∧ (True ∧ (True ∧ (((0 : Nat) + List.length g.4 * (2 : Nat) ≤ List.length (gC enF g.4) ∧ Plain (List.take (List.length g.4 * (2 : Nat)) (List.drop (0 : Nat) (gC enF g.4)))) ∧ (True ∧ (True ∧ (True ∧ (True ∧ True)))))))))))) ∧ ((True ∧ (True ∧ (True ∧ (True ∧ (((0 : Nat) + ((0 : Nat) + (Int.toNat (inside g.8 (0 : Int) (Int.ofNat (List.length g.5))) - (0 : Nat)) + (1 : Nat) + (Int.toNat (↑(List.length g.5) : Int) - Int.toNat (inside g.8 (0 : Int) (Int.ofNat (List.length g.5))))) * (2 : Nat) ≤ List.length (List.take (((0 : Nat) + (Int.toNat (inside g.8 (0 : Int) (Int.ofNat (List.length g.5))) - (0 : Nat)) + (1 : Nat)) * (2 : Nat)) (List.drop (0 : Nat) (List.take (((0 : Nat) + (Int.toNat (inside g.8 (0 : Int) (Int.ofNat (List.length g.5))) - (0 : Nat))) * (2 : Nat)) (List.drop (0 : Nat) ([] ++ List.take ((Int.toNat (inside g.8 (0 : Int) (Int.ofNat (List.length g.5))) - (0 : Nat)) * (2 : Nat)) (List.drop (0 : Nat) (gC enF g.5)))) ++ [Value.string (bs g.6), Value.string (bs g.7)])) ++ List.take ((Int.toNat (↑(List.length g.5) : Int) - Int.toNat (inside g.8 (0 : Int) (Int.ofNat (List.length g.5)))) * (2 : Nat)) (List.drop ((0 : Nat) + Int.toNat (inside g.8 (0 : Int) (Int.ofNat (List.length g.5))) * (2 : Nat)) (gC enF g.5))) ∧ Plain (List.take (((0 : Nat) + (Int.toNat (inside g.8 (0 : Int) (Int.ofNat (List.length g.5))) - (0 : Nat)) + (1 : Nat) + (Int.toNat (↑(List.length g.5) : Int) - Int.toNat (inside g.8 (0 : Int) (Int.ofNat (List.length g.5))))) * (2 : Nat)) (List.drop (0 : Nat) (List.take (((0 : Nat) + (Int.toNat (inside g.8 (0 : Int) (Int.ofNat (List.length g.5))) - (0 : Nat)) + (1 : Nat)) * (2 : Nat)) (List.drop (0 : Nat) (List.take (((0 : Nat) + (Int.toNat (inside g.8 (0 : Int) (Int.ofNat (List.length g.5))) - (0 : Nat))) * (2 : Nat)) (List.drop (0 : Nat) ([] ++ List.take ((Int.toNat (inside g.8 (0 : Int) (Int.ofNat (List.length g.5))) - (0 : Nat)) * (2 : Nat)) (List.drop (0 : Nat) (gC enF g.5)))) ++ [Value.string (bs g.6), Value.string (bs g.7)])) ++ List.take ((Int.toNat (↑(List.length g.5) : Int) - Int.toNat (inside g.8 (0 : Int) (Int.ofNat (List.length g.5)))) * (2 : Nat)) (List.drop ((0 : Nat) + Int.toNat (inside g.8 (0 : Int) (Int.ofNat (List.length g.5))) * (2 : Nat)) (gC enF g.5)))))) ∧ (True ∧ True)))))) ∧ True)) ∧ (True ∧ (IsF (Row.mk (List.take (List.length g.3 * (2 : Nat)) (List.drop (0 : Nat) (gC enF g.3))) true (Ob.cells true)) (List.length g.3) ∧ (IsF (Row.mk (List.take (List.length g.4 * (2 : Nat)) (List.drop (0 : Nat) (gC enF g.4))) true (Ob.cells true)) (List.length g.4) ∧ (IsF (Row.mk (List.take (((0 : Nat) + (Int.toNat (inside g.8 (0 : Int) (Int.ofNat (List.length g.5))) - (0 : Nat)) + (1 : Nat) + (Int.toNat (↑(List.length g.5) : Int) - Int.toNat (inside g.8 (0 : Int) (Int.ofNat (List.length g.5))))) * (2 : Nat)) (List.drop (0 : Nat) (List.take (((0 : Nat) + (Int.toNat (inside g.8 (0 : Int) (Int.ofNat (List.length g.5))) - (0 : Nat)) + (1 : Nat)) * (2 : Nat)) (List.drop (0 : Nat) (List.take (((0 : Nat) + (Int.toNat (inside g.8 (0 : Int) (Int.ofNat (List.length g.5))) - (0 : Nat))) * (2 : Nat)) (List.drop (0 : Nat) ([] ++ List.take ((Int.toNat (inside g.8 (0 : Int) (Int.ofNat (List.length g.5))) - (0 : Nat)) * (2 : Nat)) (List.drop (0 : Nat) (gC enF g.5)))) ++ [Value.string (bs g.6), Value.string (bs g.7)])) ++ List.take ((Int.toNat (↑(List.length g.5) : Int) - Int.toNat (inside g.8 (0 : Int) (Int.ofNat (List.length g.5)))) * (2 : Nat)) (List.drop ((0 : Nat) + Int.toNat (inside g.8 (0 : Int) (Int.ofNat (List.length g.5))) * (2 : Nat)) (gC enF g.5))))) true (Ob.cells true)) ((0 : Nat) + (Int.toNat (inside g.8 (0 : Int) (Int.ofNat (List.length g.5))) - (0 : Nat)) + (1 : Nat) + (Int.toNat (↑(List.length g.5) : Int) - Int.toNat (inside g.8 (0 : Int) (Int.ofNat (List.length g.5))))) ∧ (List.length g.3 ≤ (9223372036854775807 : Nat) ∧ (List.length g.4 ≤ (9223372036854775807 : Nat) ∧ ((0 : Nat) + (Int.toNat (inside g.8 (0 : Int) (Int.ofNat (List.length g.5))) - (0 : Nat)) + (1 : Nat) + (Int.toNat (↑(List.length g.5) : Int) - Int.toNat (inside g.8 (0 : Int) (Int.ofNat (List.length g.5)))) ≤ (9223372036854775807 : Nat) ∧ (BigV1 (Row.mk (List.take (List.length g.3 * (2 : Nat)) (List.drop (0 : Nat) (gC enF g.3))) true (Ob.cells true)) ∧ (BigV1 (Row.mk (List.take (List.length g.4 * (2 : Nat)) (List.drop (0 : Nat) (gC enF g.4))) true (Ob.cells true)) ∧ BigV1 (Row.mk (List.take (((0 : Nat) + (Int.toNat (inside g.8 (0 : Int) (Int.ofNat (List.length g.5))) - (0 : Nat)) + (1 : Nat) + (Int.toNat (↑(List.length g.5) : Int) - Int.toNat (inside g.8 (0 : Int) (Int.ofNat (List.length g.5))))) * (2 : Nat)) (List.drop (0 : Nat) (List.take (((0 : Nat) + (Int.toNat (inside g.8 (0 : Int) (Int.ofNat (List.length g.5))) - (0 : Nat)) + (1 : Nat)) * (2 : Nat)) (List.drop (0 : Nat) (List.take (((0 : Nat) + (Int.toNat (inside g.8 (0 : Int) (Int.ofNat (List.length g.5))) - (0 : Nat))) * (2 : Nat)) (List.drop (0 : Nat) ([] ++ List.take ((Int.toNat (inside g.8 (0 : Int) (Int.ofNat (List.length g.5))) - (0 : Nat)) * (2 : Nat)) (List.drop (0 : Nat) (gC enF g.5)))) ++ [Value.string (bs g.6), Value.string (bs g.7)])) ++ List.take ((Int.toNat (↑(List.length g.5) : Int) - Int.toNat (inside g.8 (0 : Int) (Int.ofNat (List.length g.5)))) * (2 : Nat)) (List.drop ((0 : Nat) + Int.toNat (inside g.8 (0 : Int) (Int.ofNat (List.length g.5))) * (2 : Nat)) (gC enF g.5))))) true (Ob.cells true))))))))))))) ∧
                          ((Value.agg (Array.mk [Value.string g.1.1, Value.string g.1.2, Value.string g.1.3, Value.string g.1.4, Value.slice (some (Addr.mk (0 : Nat) (0 : Nat) none)) (List.length g.3) (2 : Nat), Value.int IntKind.i64 g.1.5, Value.int IntKind.i64 g.1.6, Value.slice (some (Addr.mk (1 : Nat) (0 : Nat) none)) (List.length g.4) (2 : Nat), Value.int IntKind.i64 g.1.7, Value.string g.1.8, Value.int IntKind.i64 g.1.9, Value.int IntKind.i64 g.1.10]) = Value.agg (Array.mk [Value.string g.1.1, Value.string g.1.2, Value.string g.1.3, Value.string g.1.4, Value.slice (some (Addr.mk (0 : Nat) (0 : Nat) none)) (List.length g.3) (2 : Nat), Value.int IntKind.i64 g.1.5, Value.int IntKind.i64 g.1.6, Value.slice (some (Addr.mk (1 : Nat) (0 : Nat) none)) (List.length g.4) (2 : Nat), Value.int IntKind.i64 g.1.7, Value.string g.1.8, Value.int IntKind.i64 g.1.9, Value.int IntKind.i64 g.1.10])) ∧
                          ((Value.agg (Array.mk [Value.string g.2.1, Value.string g.2.2, Value.string g.2.3, Value.string g.2.4, Value.slice (some (Addr.mk (2 : Nat) (0 : Nat) none)) (List.length g.5) (2 : Nat), Value.int IntKind.i64 g.2.5]) = Value.agg (Array.mk [Value.string g.2.1, Value.string g.2.2, Value.string g.2.3, Value.string g.2.4, Value.slice (some (Addr.mk (2 : Nat) (0 : Nat) none)) (List.length g.5) (2 : Nat), Value.int IntKind.i64 g.2.5])) ∧
                          ((Value.agg (Array.mk [Value.string g.1.1, Value.string g.1.2, Value.string g.1.3, Value.string g.1.4, Value.slice (some (Addr.mk (0 : Nat) (0 : Nat) none)) (List.length g.3) (2 : Nat), Value.int IntKind.i64 g.1.5, Value.int IntKind.i64 g.1.6, Value.slice (some (Addr.mk (1 : Nat) (0 : Nat) none)) (List.length g.4) (2 : Nat), Value.int IntKind.i64 g.1.7, Value.string g.1.8, Value.int IntKind.i64 g.1.9, Value.int IntKind.i64 g.1.10]) = Value.agg (Array.mk [Value.string g.1.1, Value.string g.1.2, Value.string g.1.3, Value.string g.1.4, Value.slice (some (Addr.mk (0 : Nat) (0 : Nat) none)) (List.length g.3) (2 : Nat), Value.int IntKind.i64 g.1.5, Value.int IntKind.i64 g.1.6, Value.slice (some (Addr.mk (1 : Nat) (0 : Nat) none)) (List.length g.4) (2 : Nat), Value.int IntKind.i64 g.1.7, Value.string g.1.8, Value.int IntKind.i64 g.1.9, Value.int IntKind.i64 g.1.10])) ∧
                          ((Value.agg (Array.mk [Value.string g.1.1, Value.string g.1.2, Value.string g.1.3, Value.string g.1.4, Value.slice (some (Addr.mk (0 : Nat) (0 : Nat) none)) (List.length g.3) (2 : Nat), Value.int IntKind.i64 g.1.5, Value.int IntKind.i64 g.1.6, Value.slice (some (Addr.mk (1 : Nat) (0 : Nat) none)) (List.length g.4) (2 : Nat), Value.int IntKind.i64 g.1.7, Value.string g.1.8, Value.int IntKind.i64 g.1.9, Value.int IntKind.i64 g.1.10]) = Value.agg (Array.mk [Value.string g.1.1, Value.string g.1.2, Value.string g.1.3, Value.string g.1.4, Value.slice (some (Addr.mk (0 : Nat) (0 : Nat) none)) (List.length g.3) (2 : Nat), Value.int IntKind.i64 g.1.5, Value.int IntKind.i64 g.1.6, Value.slice (some (Addr.mk (1 : Nat) (0 : Nat) none)) (List.length g.4) (2 : Nat), Value.int IntKind.i64 g.1.7, Value.string g.1.8, Value.int IntKind.i64 g.1.9, Value.int IntKind.i64 g.1.10])) ∧
                          ((Value.agg (Array.mk [Value.string g.2.1, Value.string g.2.2, Value.string g.2.3, Value.string g.2.4, Value.slice (some (Addr.mk (27 : Nat) (0 : Nat) none)) ((0 : Nat) + (Int.toNat (inside g.8 (0 : Int) (Int.ofNat (List.length g.5))) - (0 : Nat)) + (1 : Nat) + (Int.toNat (↑(List.length g.5) : Int) - Int.toNat (inside g.8 (0 : Int) (Int.ofNat (List.length g.5))))) (2 : Nat), Value.int IntKind.i64 g.2.5]) = Value.agg (Array.mk [Value.string g.2.1, Value.string g.2.2, Value.string g.2.3, Value.string g.2.4, Value.slice (some (Addr.mk (27 : Nat) (0 : Nat) none)) ((0 : Nat) + (Int.toNat (inside g.8 (0 : Int) (Int.ofNat (List.length g.5))) - (0 : Nat)) + (1 : Nat) + (Int.toNat (↑(List.length g.5) : Int) - Int.toNat (inside g.8 (0 : Int) (Int.ofNat (List.length g.5))))) (2 : Nat), Value.int IntKind.i64 g.2.5])) ∧
                          ((Value.agg (Array.mk [Value.string g.2.1, Value.string g.2.2, Value.string g.2.3, Value.string g.2.4, Value.slice (some (Addr.mk (27 : Nat) (0 : Nat) none)) ((0 : Nat) + (Int.toNat (inside g.8 (0 : Int) (Int.ofNat (List.length g.5))) - (0 : Nat)) + (1 : Nat) + (Int.toNat (↑(List.length g.5) : Int) - Int.toNat (inside g.8 (0 : Int) (Int.ofNat (List.length g.5))))) (2 : Nat), Value.int IntKind.i64 g.2.5]) = Value.agg (Array.mk [Value.string g.2.1, Value.string g.2.2, Value.string g.2.3, Value.string g.2.4, Value.slice (some (Addr.mk (27 : Nat) (0 : Nat) none)) ((0 : Nat) + (Int.toNat (inside g.8 (0 : Int) (Int.ofNat (List.length g.5))) - (0 : Nat)) + (1 : Nat) + (Int.toNat (↑(List.length g.5) : Int) - Int.toNat (inside g.8 (0 : Int) (Int.ofNat (List.length g.5))))) (2 : Nat), Value.int IntKind.i64 g.2.5])) ∧
                          (br (g.10)
                           (br (!matR (Row.mk (List.take (List.length g.3 * (2 : Nat)) (List.drop (0 : Nat) (gC enF g.3))) true (Ob.cells true)) (Row.mk (List.take (List.length g.4 * (2 : Nat)) (List.drop (0 : Nat) (gC enF g.4))) true (Ob.cells true)) (Row.mk (List.take (List.length g.5 * (2 : Nat)) (List.drop (0 : Nat) (gC enF g.5))) true (Ob.cells true)))
                            (br (!matR (Row.mk (List.take (List.length g.3 * (2 : Nat)) (List.drop (0 : Nat) (gC enF g.3))) true (Ob.cells true)) (Row.mk (List.take (List.length g.4 * (2 : Nat)) (List.drop (0 : Nat) (gC enF g.4))) true (Ob.cells true)) (Row.mk (List.take (((0 : Nat) + (Int.toNat (inside g.8 (0 : Int) (Int.ofNat (List.length g.5))) - (0 : Nat)) + (1 : Nat) + (Int.toNat (↑(List.length g.5) : Int) - Int.toNat (inside g.8 (0 : Int) (Int.ofNat (List.length g.5))))) * (2 : Nat)) (List.drop (0 : Nat) (List.take (((0 : Nat) + (Int.toNat (inside g.8 (0 : Int) (Int.ofNat (List.length g.5))) - (0 : Nat)) + (1 : Nat)) * (2 : Nat)) (List.drop (0 : Nat) (List.take (((0 : Nat) + (Int.toNat (inside g.8 (0 : Int) (Int.ofNat (List.length g.5))) - (0 : Nat))) * (2 : Nat)) (List.drop (0 : Nat) ([] ++ List.take ((Int.toNat (inside g.8 (0 : Int) (Int.ofNat (List.length g.5))) - (0 : Nat)) * (2 : Nat)) (List.drop (0 : Nat) (gC enF g.5)))) ++ [Value.string (bs g.6), Value.string (bs g.7)])) ++ List.take ((Int.toNat (↑(List.length g.5) : Int) - Int.toNat (inside g.8 (0 : Int) (Int.ofNat (List.length g.5)))) * (2 : Nat)) (List.drop ((0 : Nat) + Int.toNat (inside g.8 (0 : Int) (Int.ofNat (List.length g.5))) * (2 : Nat)) (gC enF g.5))))) true (Ob.cells true)))
                             (((True ∧ (True ∧ True))) ∧
                             ((true = true) ∧
                             ((Eq (α := List Value) (gC enF e) (gC enF g.3)) ∧
                             ((Plain (gC enF e)) ∧
                             ((Eq (α := List Value) (gC enF r) (gC enF g.4)) ∧
                             ((Plain (gC enF r)) ∧
                             ((Eq (α := List Value) (gC enF q) (gC enF g.5)) ∧
                             ((Plain (gC enF q)) ∧
                             True))))))))
                             ((true = false) ∧
                             ((Eq (α := List Value) (gC enF e) (gC enF g.3)) ∧
                             ((Plain (gC enF e)) ∧
                             ((Eq (α := List Value) (gC enF r) (gC enF g.4)) ∧
                             ((Plain (gC enF r)) ∧
                             ((Eq (α := List Value) (gC enF q) (gC enF g.5)) ∧
                             ((Plain (gC enF q)) ∧
                             True))))))))
                            ((true = false) ∧
                            ((Eq (α := List Value) (gC enF e) (gC enF g.3)) ∧
                            ((Plain (gC enF e)) ∧
                            ((Eq (α := List Value) (gC enF r) (gC enF g.4)) ∧
                            ((Plain (gC enF r)) ∧
                            ((Eq (α := List Value) (gC enF q) (gC enF g.5)) ∧
                            ((Plain (gC enF q)) ∧
                            True))))))))
                           (br (y2)
                            (br (!y2)
                             (((True ∧ (True ∧ True))) ∧
                             ((true = true) ∧
                             ((Eq (α := List Value) (gC enF e) (gC enF g.3)) ∧
                             ((Plain (gC enF e)) ∧
                             ((Eq (α := List Value) (gC enF r) (gC enF g.4)) ∧
                             ((Plain (gC enF r)) ∧
                             ((Eq (α := List Value) (gC enF q) (gC enF g.5)) ∧
                             ((Plain (gC enF q)) ∧
                             True))))))))
                             (br (decide (alN (Row.mk (List.take (List.length g.5 * (2 : Nat)) (List.drop (0 : Nat) (gC enF g.5))) true (Ob.cells true)) (bs g.6) > (0 : Int)))
                              (((True ∧ (True ∧ True))) ∧
                              ((true = true) ∧
                              ((Eq (α := List Value) (gC enF e) (gC enF g.3)) ∧
                              ((Plain (gC enF e)) ∧
                              ((Eq (α := List Value) (gC enF r) (gC enF g.4)) ∧
                              ((Plain (gC enF r)) ∧
                              ((Eq (α := List Value) (gC enF q) (gC enF g.5)) ∧
                              ((Plain (gC enF q)) ∧
                              True))))))))
                              (br (!matR (Row.mk (List.take (List.length g.3 * (2 : Nat)) (List.drop (0 : Nat) (gC enF g.3))) true (Ob.cells true)) (Row.mk (List.take (List.length g.4 * (2 : Nat)) (List.drop (0 : Nat) (gC enF g.4))) true (Ob.cells true)) (Row.mk (List.take (List.length g.5 * (2 : Nat)) (List.drop (0 : Nat) (gC enF g.5))) true (Ob.cells true)))
                               (((True ∧ (True ∧ True))) ∧
                               ((true = true) ∧
                               ((Eq (α := List Value) (gC enF e) (gC enF g.3)) ∧
                               ((Plain (gC enF e)) ∧
                               ((Eq (α := List Value) (gC enF r) (gC enF g.4)) ∧
                               ((Plain (gC enF r)) ∧
                               ((Eq (α := List Value) (gC enF q) (gC enF g.5)) ∧
                               ((Plain (gC enF q)) ∧
                               True))))))))
                               (br (!matR (Row.mk (List.take (List.length g.3 * (2 : Nat)) (List.drop (0 : Nat) (gC enF g.3))) true (Ob.cells true)) (Row.mk (List.take (List.length g.4 * (2 : Nat)) (List.drop (0 : Nat) (gC enF g.4))) true (Ob.cells true)) (Row.mk (List.take (((0 : Nat) + (Int.toNat (inside g.8 (0 : Int) (Int.ofNat (List.length g.5))) - (0 : Nat)) + (1 : Nat) + (Int.toNat (↑(List.length g.5) : Int) - Int.toNat (inside g.8 (0 : Int) (Int.ofNat (List.length g.5))))) * (2 : Nat)) (List.drop (0 : Nat) (List.take (((0 : Nat) + (Int.toNat (inside g.8 (0 : Int) (Int.ofNat (List.length g.5))) - (0 : Nat)) + (1 : Nat)) * (2 : Nat)) (List.drop (0 : Nat) (List.take (((0 : Nat) + (Int.toNat (inside g.8 (0 : Int) (Int.ofNat (List.length g.5))) - (0 : Nat))) * (2 : Nat)) (List.drop (0 : Nat) ([] ++ List.take ((Int.toNat (inside g.8 (0 : Int) (Int.ofNat (List.length g.5))) - (0 : Nat)) * (2 : Nat)) (List.drop (0 : Nat) (gC enF g.5)))) ++ [Value.string (bs g.6), Value.string (bs g.7)])) ++ List.take ((Int.toNat (↑(List.length g.5) : Int) - Int.toNat (inside g.8 (0 : Int) (Int.ofNat (List.length g.5)))) * (2 : Nat)) (List.drop ((0 : Nat) + Int.toNat (inside g.8 (0 : Int) (Int.ofNat (List.length g.5))) * (2 : Nat)) (gC enF g.5))))) true (Ob.cells true)))
                                (((True ∧ (True ∧ True))) ∧
                                ((true = true) ∧
                                ((Eq (α := List Value) (gC enF e) (gC enF g.3)) ∧
                                ((Plain (gC enF e)) ∧
                                ((Eq (α := List Value) (gC enF r) (gC enF g.4)) ∧
                                ((Plain (gC enF r)) ∧
                                ((Eq (α := List Value) (gC enF q) (gC enF g.5)) ∧
                                ((Plain (gC enF q)) ∧
                                True))))))))
                                ((true = false) ∧
                                ((Eq (α := List Value) (gC enF e) (gC enF g.3)) ∧
                                ((Plain (gC enF e)) ∧
                                ((Eq (α := List Value) (gC enF r) (gC enF g.4)) ∧
                                ((Plain (gC enF r)) ∧
                                ((Eq (α := List Value) (gC enF q) (gC enF g.5)) ∧
                                ((Plain (gC enF q)) ∧
                                True)))))))))))
                            (br (matR (Row.mk (List.take (List.length g.3 * (2 : Nat)) (List.drop (0 : Nat) (gC enF g.3))) true (Ob.cells true)) (Row.mk (List.take (List.length g.4 * (2 : Nat)) (List.drop (0 : Nat) (gC enF g.4))) true (Ob.cells true)) (Row.mk (List.take (List.length g.5 * (2 : Nat)) (List.drop (0 : Nat) (gC enF g.5))) true (Ob.cells true)) == matR (Row.mk (List.take (List.length g.3 * (2 : Nat)) (List.drop (0 : Nat) (gC enF g.3))) true (Ob.cells true)) (Row.mk (List.take (List.length g.4 * (2 : Nat)) (List.drop (0 : Nat) (gC enF g.4))) true (Ob.cells true)) (Row.mk (List.take (((0 : Nat) + (Int.toNat (inside g.8 (0 : Int) (Int.ofNat (List.length g.5))) - (0 : Nat)) + (1 : Nat) + (Int.toNat (↑(List.length g.5) : Int) - Int.toNat (inside g.8 (0 : Int) (Int.ofNat (List.length g.5))))) * (2 : Nat)) (List.drop (0 : Nat) (List.take (((0 : Nat) + (Int.toNat (inside g.8 (0 : Int) (Int.ofNat (List.length g.5))) - (0 : Nat)) + (1 : Nat)) * (2 : Nat)) (List.drop (0 : Nat) (List.take (((0 : Nat) + (Int.toNat (inside g.8 (0 : Int) (Int.ofNat (List.length g.5))) - (0 : Nat))) * (2 : Nat)) (List.drop (0 : Nat) ([] ++ List.take ((Int.toNat (inside g.8 (0 : Int) (Int.ofNat (List.length g.5))) - (0 : Nat)) * (2 : Nat)) (List.drop (0 : Nat) (gC enF g.5)))) ++ [Value.string (bs g.6), Value.string (bs g.7)])) ++ List.take ((Int.toNat (↑(List.length g.5) : Int) - Int.toNat (inside g.8 (0 : Int) (Int.ofNat (List.length g.5)))) * (2 : Nat)) (List.drop ((0 : Nat) + Int.toNat (inside g.8 (0 : Int) (Int.ofNat (List.length g.5))) * (2 : Nat)) (gC enF g.5))))) true (Ob.cells true)))
                             (br (!y2)
                              (((True ∧ (True ∧ True))) ∧
                              ((true = true) ∧
                              ((Eq (α := List Value) (gC enF e) (gC enF g.3)) ∧
                              ((Plain (gC enF e)) ∧
                              ((Eq (α := List Value) (gC enF r) (gC enF g.4)) ∧
                              ((Plain (gC enF r)) ∧
                              ((Eq (α := List Value) (gC enF q) (gC enF g.5)) ∧
                              ((Plain (gC enF q)) ∧
                              True))))))))
                              (br (decide (alN (Row.mk (List.take (List.length g.5 * (2 : Nat)) (List.drop (0 : Nat) (gC enF g.5))) true (Ob.cells true)) (bs g.6) > (0 : Int)))
                               (((True ∧ (True ∧ True))) ∧
                               ((true = true) ∧
                               ((Eq (α := List Value) (gC enF e) (gC enF g.3)) ∧
                               ((Plain (gC enF e)) ∧
                               ((Eq (α := List Value) (gC enF r) (gC enF g.4)) ∧
                               ((Plain (gC enF r)) ∧
                               ((Eq (α := List Value) (gC enF q) (gC enF g.5)) ∧
                               ((Plain (gC enF q)) ∧
                               True))))))))
                               (br (!matR (Row.mk (List.take (List.length g.3 * (2 : Nat)) (List.drop (0 : Nat) (gC enF g.3))) true (Ob.cells true)) (Row.mk (List.take (List.length g.4 * (2 : Nat)) (List.drop (0 : Nat) (gC enF g.4))) true (Ob.cells true)) (Row.mk (List.take (List.length g.5 * (2 : Nat)) (List.drop (0 : Nat) (gC enF g.5))) true (Ob.cells true)))
                                (((True ∧ (True ∧ True))) ∧
                                ((true = true) ∧
                                ((Eq (α := List Value) (gC enF e) (gC enF g.3)) ∧
                                ((Plain (gC enF e)) ∧
                                ((Eq (α := List Value) (gC enF r) (gC enF g.4)) ∧
                                ((Plain (gC enF r)) ∧
                                ((Eq (α := List Value) (gC enF q) (gC enF g.5)) ∧
                                ((Plain (gC enF q)) ∧
                                True))))))))
                                (br (!matR (Row.mk (List.take (List.length g.3 * (2 : Nat)) (List.drop (0 : Nat) (gC enF g.3))) true (Ob.cells true)) (Row.mk (List.take (List.length g.4 * (2 : Nat)) (List.drop (0 : Nat) (gC enF g.4))) true (Ob.cells true)) (Row.mk (List.take (((0 : Nat) + (Int.toNat (inside g.8 (0 : Int) (Int.ofNat (List.length g.5))) - (0 : Nat)) + (1 : Nat) + (Int.toNat (↑(List.length g.5) : Int) - Int.toNat (inside g.8 (0 : Int) (Int.ofNat (List.length g.5))))) * (2 : Nat)) (List.drop (0 : Nat) (List.take (((0 : Nat) + (Int.toNat (inside g.8 (0 : Int) (Int.ofNat (List.length g.5))) - (0 : Nat)) + (1 : Nat)) * (2 : Nat)) (List.drop (0 : Nat) (List.take (((0 : Nat) + (Int.toNat (inside g.8 (0 : Int) (Int.ofNat (List.length g.5))) - (0 : Nat))) * (2 : Nat)) (List.drop (0 : Nat) ([] ++ List.take ((Int.toNat (inside g.8 (0 : Int) (Int.ofNat (List.length g.5))) - (0 : Nat)) * (2 : Nat)) (List.drop (0 : Nat) (gC enF g.5)))) ++ [Value.string (bs g.6), Value.string (bs g.7)])) ++ List.take ((Int.toNat (↑(List.length g.5) : Int) - Int.toNat (inside g.8 (0 : Int) (Int.ofNat (List.length g.5)))) * (2 : Nat)) (List.drop ((0 : Nat) + Int.toNat (inside g.8 (0 : Int) (Int.ofNat (List.length g.5))) * (2 : Nat)) (gC enF g.5))))) true (Ob.cells true)))
                                 (((True ∧ (True ∧ True))) ∧
                                 ((true = true) ∧
                                 ((Eq (α := List Value) (gC enF e) (gC enF g.3)) ∧
                                 ((Plain (gC enF e)) ∧
                                 ((Eq (α := List Value) (gC enF r) (gC enF g.4)) ∧
                                 ((Plain (gC enF r)) ∧
                                 ((Eq (α := List Value) (gC enF q) (gC enF g.5)) ∧
                                 ((Plain (gC enF q)) ∧
                                 True))))))))
                                 ((true = false) ∧
                                 ((Eq (α := List Value) (gC enF e) (gC enF g.3)) ∧
                                 ((Plain (gC enF e)) ∧
                                 ((Eq (α := List Value) (gC enF r) (gC enF g.4)) ∧
                                 ((Plain (gC enF r)) ∧
                                 ((Eq (α := List Value) (gC enF q) (gC enF g.5)) ∧
                                 ((Plain (gC enF q)) ∧
                                 True)))))))))))
                             ((true = false) ∧
                             ((Eq (α := List Value) (gC enF e) (gC enF g.3)) ∧
                             ((Plain (gC enF e)) ∧
                             ((Eq (α := List Value) (gC enF r) (gC enF g.4)) ∧
                             ((Plain (gC enF r)) ∧
                             ((Eq (α := List Value) (gC enF q) (gC enF g.5)) ∧
                             ((Plain (gC enF q)) ∧
                             True))))))))))))))))))))
                          False))
                         False))
                        False))
                       False))))))
                      False))
                     False)
                    ((Value.slice (some (Addr.mk (2 : Nat) (0 : Nat) none)) (List.length g.5) (2 : Nat) = Value.slice (some (Addr.mk (2 : Nat) (0 : Nat) none)) (List.length g.5) (2 : Nat)) ∧
                    (br (decide ((0 : Int) ≤ (↑(0 : Nat) : Int) ∧ (0 : Int) ≤ inside g.8 (0 : Int) (Int.ofNat (List.length g.5)) ∧ inside g.8 (0 : Int) (Int.ofNat (List.length g.5)) ≤ (↑(List.length g.5) : Int)))
                     ((Value.slice (some (Addr.mk (2 : Nat) (0 : Nat) none)) (Int.toNat (inside g.8 (0 : Int) (Int.ofNat (List.length g.5))) - (0 : Nat)) (2 : Nat) = Value.slice (some (Addr.mk (2 : Nat) (0 : Nat) none)) (Int.toNat (inside g.8 (0 : Int) (Int.ofNat (List.length g.5))) - (0 : Nat)) (2 : Nat)) ∧
                     ((Value.slice (some (Addr.mk (2 : Nat) (0 : Nat) none)) (List.length g.5) (2 : Nat) = Value.slice (some (Addr.mk (2 : Nat) (0 : Nat) none)) (List.length g.5) (2 : Nat)) ∧
                     ((Value.slice (some (Addr.mk (2 : Nat) (0 : Nat) none)) (List.length g.5) (2 : Nat) = Value.slice (some (Addr.mk (2 : Nat) (0 : Nat) none)) (List.length g.5) (2 : Nat)) ∧
                     ((Value.slice (some (Addr.mk (2 : Nat) (0 : Nat) none)) (List.length g.5) (2 : Nat) = Value.slice (some (Addr.mk (2 : Nat) (0 : Nat) none)) (List.length g.5) (2 : Nat)) ∧
                     ((Value.slice (some (Addr.mk (2 : Nat) (0 : Nat) none)) (List.length g.5) (2 : Nat) = Value.slice (some (Addr.mk (2 : Nat) (0 : Nat) none)) (List.length g.5) (2 : Nat)) ∧
                     (br (decide ((0 : Int) ≤ inside g.8 (0 : Int) (Int.ofNat (List.length g.5)) ∧ inside g.8 (0 : Int) (Int.ofNat (List.length g.5)) ≤ (↑(List.length g.5) : Int) ∧ (↑(List.length g.5) : Int) ≤ (↑(List.length g.5) : Int)))
                      ((Value.slice (some (Addr.mk (2 : Nat) ((0 : Nat) + Int.toNat (inside g.8 (0 : Int) (Int.ofNat (List.length g.5))) * (2 : Nat)) none)) (Int.toNat (↑(List.length g.5) : Int) - Int.toNat (inside g.8 (0 : Int) (Int.ofNat (List.length g.5)))) (2 : Nat) = Value.slice (some (Addr.mk (2 : Nat) ((0 : Nat) + Int.toNat (inside g.8 (0 : Int) (Int.ofNat (List.length g.5))) * (2 : Nat)) none)) (Int.toNat (↑(List.length g.5) : Int) - Int.toNat (inside g.8 (0 : Int) (Int.ofNat (List.length g.5)))) (2 : Nat)) ∧
                      (br (decide ((0 : Int) ≤ inside g.8 (0 : Int) (Int.ofNat (List.length g.5)) ∧ inside g.8 (0 : Int) (Int.ofNat (List.length g.5)) ≤ (↑(List.length g.5) : Int) ∧ (↑(List.length g.5) : Int) ≤ (↑(List.length g.5) : Int)))
                       ((Value.slice (some (Addr.mk (2 : Nat) ((0 : Nat) + Int.toNat (inside g.8 (0 : Int) (Int.ofNat (List.length g.5))) * (2 : Nat)) none)) (Int.toNat (↑(List.length g.5) : Int) - Int.toNat (inside g.8 (0 : Int) (Int.ofNat (List.length g.5)))) (2 : Nat) = Value.slice (some (Addr.mk (2 : Nat) ((0 : Nat) + Int.toNat (inside g.8 (0 : Int) (Int.ofNat (List.length g.5))) * (2 : Nat)) none)) (Int.toNat (↑(List.length g.5) : Int) - Int.toNat (inside g.8 (0 : Int) (Int.ofNat (List.length g.5)))) (2 : Nat)) ∧
                       (br (decide ((0 : Int) ≤ inside g.8 (0 : Int) (Int.ofNat (List.length g.5)) ∧ inside g.8 (0 : Int) (Int.ofNat (List.length g.5)) ≤ (↑(List.length g.5) : Int) ∧ (↑(List.length g.5) : Int) ≤ (↑(List.length g.5) : Int)))
                        ((Value.slice (some (Addr.mk (2 : Nat) ((0 : Nat) + Int.toNat (inside g.8 (0 : Int) (Int.ofNat (List.length g.5))) * (2 : Nat)) none)) (Int.toNat (↑(List.length g.5) : Int) - Int.toNat (inside g.8 (0 : Int) (Int.ofNat (List.length g.5)))) (2 : Nat) = Value.slice (some (Addr.mk (2 : Nat) ((0 : Nat) + Int.toNat (inside g.8 (0 : Int) (Int.ofNat (List.length g.5))) * (2 : Nat)) none)) (Int.toNat (↑(List.length g.5) : Int) - Int.toNat (inside g.8 (0 : Int) (Int.ofNat (List.length g.5)))) (2 : Nat)) ∧
                        (br (decide ((0 : Int) ≤ inside g.8 (0 : Int) (Int.ofNat (List.length g.5)) ∧ inside g.8 (0 : Int) (Int.ofNat (List.length g.5)) ≤ (↑(List.length g.5) : Int) ∧ (↑(List.length g.5) : Int) ≤ (↑(List.length g.5) : Int)))
                         ((Value.slice (some (Addr.mk (2 : Nat) ((0 : Nat) + Int.toNat (inside g.8 (0 : Int) (Int.ofNat (List.length g.5))) * (2 : Nat)) none)) (Int.toNat (↑(List.length g.5) : Int) - Int.toNat (inside g.8 (0 : Int) (Int.ofNat (List.length g.5)))) (2 : Nat) = Value.slice (some (Addr.mk (2 : Nat) ((0 : Nat) + Int.toNat (inside g.8 (0 : Int) (Int.ofNat (List.length g.5))) * (2 : Nat)) none)) (Int.toNat (↑(List.length g.5) : Int) - Int.toNat (inside g.8 (0 : Int) (Int.ofNat (List.length g.5)))) (2 : Nat)) ∧
                         ((((((0 : Nat) + List.length g.5 * (2 : Nat) ≤ List.length (gC enF g.5) ∧ Plain (List.take (List.length g.5 * (2 : Nat)) (List.drop (0 : Nat) (gC enF g.5)))) ∧ (True ∧ True)) ∧ (True ∧ (IsF (Row.mk (List.take (List.length g.5 * (2 : Nat)) (List.drop (0 : Nat) (gC enF g.5))) true (Ob.cells true)) (List.length g.5) ∧ (List.length g.5 ≤ (9223372036854775807 : Nat) ∧ alB (Row.mk (List.take (List.length g.5 * (2 : Nat)) (List.drop (0 : Nat) (gC enF g.5))) true (Ob.cells true)) (bs g.6) ≤ (16777216 : Nat)))))) ∧
                         (((((True ∧ (True ∧ (True ∧ (True ∧ (((0 : Nat) + List.length g.3 * (2 : Nat) ≤ List.length (gC enF g.3) ∧ Plain (List.take (List.length g.3 * (2 : Nat)) (List.drop (0 : Nat) (gC enF g.3)))) ∧ (True ∧ (True ∧ (((0 : Nat) + List.length g.4 * (2 : Nat) ≤ List.length (gC enF g.4) ∧ Plain (List.take (List.length g.4 * (2 : Nat)) (List.drop (0 : Nat) (gC enF g.4)))) ∧ (True ∧ (True ∧ (True ∧ (True ∧ True)))))))))))) ∧ ((True ∧ (True ∧ (True ∧ (True ∧ (((0 : Nat) + List.length g.5 * (2 : Nat) ≤ List.length (gC enF g.5) ∧ Plain (List.take (List.length g.5 * (2 : Nat)) (List.drop (0 : Nat) (gC enF g.5)))) ∧ (True ∧ True)))))) ∧ True)) ∧ (True ∧ (IsF (Row.mk (List.take (List.length g.3 * (2 : Nat)) (List.drop (0 : Nat) (gC enF g.3))) true (Ob.cells true)) (List.length g.3) ∧ (IsF (Row.mk (List.take (List.length g.4 * (2 : Nat)) (List.drop (0 : Nat) (gC enF g.4))) true (Ob.cells true)) (List.length g.4) ∧ (IsF (Row.mk (List.take (List.length g.5 * (2 : Nat)) (List.drop (0 : Nat) (gC enF g.5))) true (Ob.cells true)) (List.length g.5) ∧ (List.length g.3 ≤ (9223372036854775807 : Nat) ∧ (List.length g.4 ≤ (9223372036854775807 : Nat) ∧ (List.length g.5 ≤ (9223372036854775807 : Nat) ∧ (BigV1 (Row.mk (List.take (List.length g.3 * (2 : Nat)) (List.drop (0 : Nat) (gC enF g.3))) true (Ob.cells true)) ∧ (BigV1 (Row.mk (List.take (List.length g.4 * (2 : Nat)) (List.drop (0 : Nat) (gC enF g.4))) true (Ob.cells true)) ∧ BigV1 (Row.mk (List.take (List.length g.5 * (2 : Nat)) (List.drop (0 : Nat) (gC enF g.5))) true (Ob.cells true))))))))))))) ∧
                         (((((True ∧ (True ∧ (True ∧ (True ∧ (((0 : Nat) + List.length g.3 * (2 : Nat) ≤ List.length (gC enF g.3) ∧ Plain (List.take (List.length g.3 * (2 : Nat)) (List.drop (0 : Nat) (gC enF g.3)))) ∧ (True ∧ (True ∧ (((0 : Nat) + List.length g.4 * (2 : Nat) ≤ List.length (gC enF g.4) ∧ Plain (List.take (List.length g.4 * (2 : Nat)) (List.drop (0 : Nat) (gC enF g.4)))) ∧ (True ∧ (True ∧ (True ∧ (True ∧ True)))))))))))) ∧ ((True ∧ (True ∧ (True ∧ (True ∧ (((0 : Nat) + ((0 : Nat) + (Int.toNat (inside g.8 (0 : Int) (Int.ofNat (List.length g.5))) - (0 : Nat)) + (1 : Nat)) * (2 : Nat) ≤ List.length (List.take (((0 : Nat) + (Int.toNat (inside g.8 (0 : Int) (Int.ofNat (List.length g.5))) - (0 : Nat))) * (2 : Nat)) (List.drop (0 : Nat) ([] ++ List.take ((Int.toNat (inside g.8 (0 : Int) (Int.ofNat (List.length g.5))) - (0 : Nat)) * (2 : Nat)) (List.drop (0 : Nat) (gC enF g.5)))) ++ [Value.string (bs g.6), Value.string (bs g.7)]) ∧ Plain (List.take (((0 : Nat) + (Int.toNat (inside g.8 (0 : Int) (Int.ofNat (List.length g.5))) - (0 : Nat)) + (1 : Nat)) * (2 : Nat)) (List.drop (0 : Nat) (List.take (((0 : Nat) + (Int.toNat (inside g.8 (0 : Int) (Int.ofNat (List.length g.5))) - (0 : Nat))) * (2 : Nat)) (List.drop (0 : Nat) ([] ++ List.take ((Int.toNat (inside g.8 (0 : Int) (Int.ofNat (List.length g.5))) - (0 : Nat)) * (2 : Nat)) (List.drop (0 : Nat) (gC enF g.5)))) ++ [Value.string (bs g.6), Value.string (bs g.7)])))) ∧ (True ∧ True)))))) ∧ True)) ∧ (True ∧ (IsF (Row.mk (List.take (List.length g.3 * (2 : Nat)) (List.drop (0 : Nat) (gC enF g.3))) true (Ob.cells true)) (List.length g.3) ∧ (IsF (Row.mk (List.take (List.length g.4 * (2 : Nat)) (List.drop (0 : Nat) (gC enF g.4))) true (Ob.cells true)) (List.length g.4) ∧ (IsF (Row.mk (List.take (((0 : Nat) + (Int.toNat (inside g.8 (0 : Int) (Int.ofNat (List.length g.5))) - (0 : Nat)) + (1 : Nat)) * (2 : Nat)) (List.drop (0 : Nat) (List.take (((0 : Nat) + (Int.toNat (inside g.8 (0 : Int) (Int.ofNat (List.length g.5))) - (0 : Nat))) * (2 : Nat)) (List.drop (0 : Nat) ([] ++ List.take ((Int.toNat (inside g.8 (0 : Int) (Int.ofNat (List.length g.5))) - (0 : Nat)) * (2 : Nat)) (List.drop (0 : Nat) (gC enF g.5)))) ++ [Value.string (bs g.6), Value.string (bs g.7)]))) true (Ob.cells true)) ((0 : Nat) + (Int.toNat (inside g.8 (0 : Int) (Int.ofNat (List.length g.5))) - (0 : Nat)) + (1 : Nat)) ∧ (List.length g.3 ≤ (9223372036854775807 : Nat) ∧ (List.length g.4 ≤ (9223372036854775807 : Nat) ∧ ((0 : Nat) + (Int.toNat (inside g.8 (0 : Int) (Int.ofNat (List.length g.5))) - (0 : Nat)) + (1 : Nat) ≤ (9223372036854775807 : Nat) ∧ (BigV1 (Row.mk (List.take (List.length g.3 * (2 : Nat)) (List.drop (0 : Nat) (gC enF g.3))) true (Ob.cells true)) ∧ (BigV1 (Row.mk (List.take (List.length g.4 * (2 : Nat)) (List.drop (0 : Nat) (gC enF g.4))) true (Ob.cells true)) ∧ BigV1 (Row.mk (List.take (((0 : Nat) + (Int.toNat (inside g.8 (0 : Int) (Int.ofNat (List.length g.5))) - (0 : Nat)) + (1 : Nat)) * (2 : Nat)) (List.drop (0 : Nat) (List.take (((0 : Nat) + (Int.toNat (inside g.8 (0 : Int) (Int.ofNat (List.length g.5))) - (0 : Nat))) * (2 : Nat)) (List.drop (0 : Nat) ([] ++ List.take ((Int.toNat (inside g.8 (0 : Int) (Int.ofNat (List.length g.5))) - (0 : Nat)) * (2 : Nat)) (List.drop (0 : Nat) (gC enF g.5)))) ++ [Value.string (bs g.6), Value.string (bs g.7)]))) true (Ob.cells true))))))))))))) ∧
                         ((Value.agg (Array.mk [Value.string g.1.1, Value.string g.1.2, Value.string g.1.3, Value.string g.1.4, Value.slice (some (Addr.mk (0 : Nat) (0 : Nat) none)) (List.length g.3) (2 : Nat), Value.int IntKind.i64 g.1.5, Value.int IntKind.i64 g.1.6, Value.slice (some (Addr.mk (1 : Nat) (0 : Nat) none)) (List.length g.4) (2 : Nat), Value.int IntKind.i64 g.1.7, Value.string g.1.8, Value.int IntKind.i64 g.1.9, Value.int IntKind.i64 g.1.10]) = Value.agg (Array.mk [Value.string g.1.1, Value.string g.1.2, Value.string g.1.3, Value.string g.1.4, Value.slice (some (Addr.mk (0 : Nat) (0 : Nat) none)) (List.length g.3) (2 : Nat), Value.int IntKind.i64 g.1.5, Value.int IntKind.i64 g.1.6, Value.slice (some (Addr.mk (1 : Nat) (0 : Nat) none)) (List.length g.4) (2 : Nat), Value.int IntKind.i64 g.1.7, Value.string g.1.8, Value.int IntKind.i64 g.1.9, Value.int IntKind.i64 g.1.10])) ∧
                         ((Value.agg (Array.mk [Value.string g.2.1, Value.string g.2.2, Value.string g.2.3, Value.string g.2.4, Value.slice (some (Addr.mk (2 : Nat) (0 : Nat) none)) (List.length g.5) (2 : Nat), Value.int IntKind.i64 g.2.5]) = Value.agg (Array.mk [Value.string g.2.1, Value.string g.2.2, Value.string g.2.3, Value.string g.2.4, Value.slice (some (Addr.mk (2 : Nat) (0 : Nat) none)) (List.length g.5) (2 : Nat), Value.int IntKind.i64 g.2.5])) ∧
                         ((Value.agg (Array.mk [Value.string g.1.1, Value.string g.1.2, Value.string g.1.3, Value.string g.1.4, Value.slice (some (Addr.mk (0 : Nat) (0 : Nat) none)) (List.length g.3) (2 : Nat), Value.int IntKind.i64 g.1.5, Value.int IntKind.i64 g.1.6, Value.slice (some (Addr.mk (1 : Nat) (0 : Nat) none)) (List.length g.4) (2 : Nat), Value.int IntKind.i64 g.1.7, Value.string g.1.8, Value.int IntKind.i64 g.1.9, Value.int IntKind.i64 g.1.10]) = Value.agg (Array.mk [Value.string g.1.1, Value.string g.1.2, Value.string g.1.3, Value.string g.1.4, Value.slice (some (Addr.mk (0 : Nat) (0 : Nat) none)) (List.length g.3) (2 : Nat), Value.int IntKind.i64 g.1.5, Value.int IntKind.i64 g.1.6, Value.slice (some (Addr.mk (1 : Nat) (0 : Nat) none)) (List.length g.4) (2 : Nat), Value.int IntKind.i64 g.1.7, Value.string g.1.8, Value.int IntKind.i64 g.1.9, Value.int IntKind.i64 g.1.10])) ∧
                         ((Value.agg (Array.mk [Value.string g.1.1, Value.string g.1.2, Value.string g.1.3, Value.string g.1.4, Value.slice (some (Addr.mk (0 : Nat) (0 : Nat) none)) (List.length g.3) (2 : Nat), Value.int IntKind.i64 g.1.5, Value.int IntKind.i64 g.1.6, Value.slice (some (Addr.mk (1 : Nat) (0 : Nat) none)) (List.length g.4) (2 : Nat), Value.int IntKind.i64 g.1.7, Value.string g.1.8, Value.int IntKind.i64 g.1.9, Value.int IntKind.i64 g.1.10]) = Value.agg (Array.mk [Value.string g.1.1, Value.string g.1.2, Value.string g.1.3, Value.string g.1.4, Value.slice (some (Addr.mk (0 : Nat) (0 : Nat) none)) (List.length g.3) (2 : Nat), Value.int IntKind.i64 g.1.5, Value.int IntKind.i64 g.1.6, Value.slice (some (Addr.mk (1 : Nat) (0 : Nat) none)) (List.length g.4) (2 : Nat), Value.int IntKind.i64 g.1.7, Value.string g.1.8, Value.int IntKind.i64 g.1.9, Value.int IntKind.i64 g.1.10])) ∧
                         ((Value.agg (Array.mk [Value.string g.2.1, Value.string g.2.2, Value.string g.2.3, Value.string g.2.4, Value.slice (some (Addr.mk (26 : Nat) (0 : Nat) none)) ((0 : Nat) + (Int.toNat (inside g.8 (0 : Int) (Int.ofNat (List.length g.5))) - (0 : Nat)) + (1 : Nat)) (2 : Nat), Value.int IntKind.i64 g.2.5]) = Value.agg (Array.mk [Value.string g.2.1, Value.string g.2.2, Value.string g.2.3, Value.string g.2.4, Value.slice (some (Addr.mk (26 : Nat) (0 : Nat) none)) ((0 : Nat) + (Int.toNat (inside g.8 (0 : Int) (Int.ofNat (List.length g.5))) - (0 : Nat)) + (1 : Nat)) (2 : Nat), Value.int IntKind.i64 g.2.5])) ∧
                         ((Value.agg (Array.mk [Value.string g.2.1, Value.string g.2.2, Value.string g.2.3, Value.string g.2.4, Value.slice (some (Addr.mk (26 : Nat) (0 : Nat) none)) ((0 : Nat) + (Int.toNat (inside g.8 (0 : Int) (Int.ofNat (List.length g.5))) - (0 : Nat)) + (1 : Nat)) (2 : Nat), Value.int IntKind.i64 g.2.5]) = Value.agg (Array.mk [Value.string g.2.1, Value.string g.2.2, Value.string g.2.3, Value.string g.2.4, Value.slice (some (Addr.mk (26 : Nat) (0 : Nat) none)) ((0 : Nat) + (Int.toNat (inside g.8 (0 : Int) (Int.ofNat (List.length g.5))) - (0 : Nat)) + (1 : Nat)) (2 : Nat), Value.int IntKind.i64 g.2.5])) ∧
                         (br (g.10)
                          (br (!matR (Row.mk (List.take (List.length g.3 * (2 : Nat)) (List.drop (0 : Nat) (gC enF g.3))) true (Ob.cells true)) (Row.mk (List.take (List.length g.4 * (2 : Nat)) (List.drop (0 : Nat) (gC enF g.4))) true (Ob.cells true)) (Row.mk (List.take (List.length g.5 * (2 : Nat)) (List.drop (0 : Nat) (gC enF g.5))) true (Ob.cells true)))
                           (br (!matR (Row.mk (List.take (List.length g.3 * (2 : Nat)) (List.drop (0 : Nat) (gC enF g.3))) true (Ob.cells true)) (Row.mk (List.take (List.length g.4 * (2 : Nat)) (List.drop (0 : Nat) (gC enF g.4))) true (Ob.cells true)) (Row.mk (List.take (((0 : Nat) + (Int.toNat (inside g.8 (0 : Int) (Int.ofNat (List.length g.5))) - (0 : Nat)) + (1 : Nat)) * (2 : Nat)) (List.drop (0 : Nat) (List.take (((0 : Nat) + (Int.toNat (inside g.8 (0 : Int) (Int.ofNat (List.length g.5))) - (0 : Nat))) * (2 : Nat)) (List.drop (0 : Nat) ([] ++ List.take ((Int.toNat (inside g.8 (0 : Int) (Int.ofNat (List.length g.5))) - (0 : Nat)) * (2 : Nat)) (List.drop (0 : Nat) (gC enF g.5)))) ++ [Value.string (bs g.6), Value.string (bs g.7)]))) true (Ob.cells true)))
                            (((True ∧ (True ∧ True))) ∧
                            ((true = true) ∧
                            ((Eq (α := List Value) (gC enF e) (gC enF g.3)) ∧
                            ((Plain (gC enF e)) ∧
                            ((Eq (α := List Value) (gC enF r) (gC enF g.4)) ∧
                            ((Plain (gC enF r)) ∧
                            ((Eq (α := List Value) (gC enF q) (gC enF g.5)) ∧
                            ((Plain (gC enF q)) ∧
                            True))))))))
                            ((true = false) ∧
                            ((Eq (α := List Value) (gC enF e) (gC enF g.3)) ∧
                            ((Plain (gC enF e)) ∧
                            ((Eq (α := List Value) (gC enF r) (gC enF g.4)) ∧
                            ((Plain (gC enF r)) ∧
                            ((Eq (α := List Value) (gC enF q) (gC enF g.5)) ∧
                            ((Plain (gC enF q)) ∧
                            True))))))))
                           ((true = false) ∧
                           ((Eq (α := List Value) (gC enF e) (gC enF g.3)) ∧
                           ((Plain (gC enF e)) ∧
                           ((Eq (α := List Value) (gC enF r) (gC enF g.4)) ∧
                           ((Plain (gC enF r)) ∧
                           ((Eq (α := List Value) (gC enF q) (gC enF g.5)) ∧
                           ((Plain (gC enF q)) ∧
                           True))))))))
                          (br (y2)
                           (br (!y2)
                            (((True ∧ (True ∧ True))) ∧
                            ((true = true) ∧
                            ((Eq (α := List Value) (gC enF e) (gC enF g.3)) ∧
                            ((Plain (gC enF e)) ∧
                            ((Eq (α := List Value) (gC enF r) (gC enF g.4)) ∧
                            ((Plain (gC enF r)) ∧
                            ((Eq (α := List Value) (gC enF q) (gC enF g.5)) ∧
                            ((Plain (gC enF q)) ∧
                            True))))))))
                            (br (decide (alN (Row.mk (List.take (List.length g.5 * (2 : Nat)) (List.drop (0 : Nat) (gC enF g.5))) true (Ob.cells true)) (bs g.6) > (0 : Int)))
                             (((True ∧ (True ∧ True))) ∧
                             ((true = true) ∧
                             ((Eq (α := List Value) (gC enF e) (gC enF g.3)) ∧
                             ((Plain (gC enF e)) ∧
                             ((Eq (α := List Value) (gC enF r) (gC enF g.4)) ∧
                             ((Plain (gC enF r)) ∧
                             ((Eq (α := List Value) (gC enF q) (gC enF g.5)) ∧
                             ((Plain (gC enF q)) ∧
                             True))))))))
                             (br (!matR (Row.mk (List.take (List.length g.3 * (2 : Nat)) (List.drop (0 : Nat) (gC enF g.3))) true (Ob.cells true)) (Row.mk (List.take (List.length g.4 * (2 : Nat)) (List.drop (0 : Nat) (gC enF g.4))) true (Ob.cells true)) (Row.mk (List.take (List.length g.5 * (2 : Nat)) (List.drop (0 : Nat) (gC enF g.5))) true (Ob.cells true)))
                              (((True ∧ (True ∧ True))) ∧
                              ((true = true) ∧
                              ((Eq (α := List Value) (gC enF e) (gC enF g.3)) ∧
                              ((Plain (gC enF e)) ∧
                              ((Eq (α := List Value) (gC enF r) (gC enF g.4)) ∧
                              ((Plain (gC enF r)) ∧
                              ((Eq (α := List Value) (gC enF q) (gC enF g.5)) ∧
                              ((Plain (gC enF q)) ∧
                              True))))))))
                              (br (!matR (Row.mk (List.take (List.length g.3 * (2 : Nat)) (List.drop (0 : Nat) (gC enF g.3))) true (Ob.cells true)) (Row.mk (List.take (List.length g.4 * (2 : Nat)) (List.drop (0 : Nat) (gC enF g.4))) true (Ob.cells true)) (Row.mk (List.take (((0 : Nat) + (Int.toNat (inside g.8 (0 : Int) (Int.ofNat (List.length g.5))) - (0 : Nat)) + (1 : Nat)) * (2 : Nat)) (List.drop (0 : Nat) (List.take (((0 : Nat) + (Int.toNat (inside g.8 (0 : Int) (Int.ofNat (List.length g.5))) - (0 : Nat))) * (2 : Nat)) (List.drop (0 : Nat) ([] ++ List.take ((Int.toNat (inside g.8 (0 : Int) (Int.ofNat (List.length g.5))) - (0 : Nat)) * (2 : Nat)) (List.drop (0 : Nat) (gC enF g.5)))) ++ [Value.string (bs g.6), Value.string (bs g.7)]))) true (Ob.cells true)))
                               (((True ∧ (True ∧ True))) ∧
                               ((true = true) ∧
                               ((Eq (α := List Value) (gC enF e) (gC enF g.3)) ∧
                               ((Plain (gC enF e)) ∧
                               ((Eq (α := List Value) (gC enF r) (gC enF g.4)) ∧
                               ((Plain (gC enF r)) ∧
                               ((Eq (α := List Value) (gC enF q) (gC enF g.5)) ∧
                               ((Plain (gC enF q)) ∧
                               True))))))))
                               ((true = false) ∧
                               ((Eq (α := List Value) (gC enF e) (gC enF g.3)) ∧
                               ((Plain (gC enF e)) ∧
                               ((Eq (α := List Value) (gC enF r) (gC enF g.4)) ∧
                               ((Plain (gC enF r)) ∧
                               ((Eq (α := List Value) (gC enF q) (gC enF g.5)) ∧
                               ((Plain (gC enF q)) ∧
                               True)))))))))))
                           (br (matR (Row.mk (List.take (List.length g.3 * (2 : Nat)) (List.drop (0 : Nat) (gC enF g.3))) true (Ob.cells true)) (Row.mk (List.take (List.length g.4 * (2 : Nat)) (List.drop (0 : Nat) (gC enF g.4))) true (Ob.cells true)) (Row.mk (List.take (List.length g.5 * (2 : Nat)) (List.drop (0 : Nat) (gC enF g.5))) true (Ob.cells true)) == matR (Row.mk (List.take (List.length g.3 * (2 : Nat)) (List.drop (0 : Nat) (gC enF g.3))) true (Ob.cells true)) (Row.mk (List.take (List.length g.4 * (2 : Nat)) (List.drop (0 : Nat) (gC enF g.4))) true (Ob.cells true)) (Row.mk (List.take (((0 : Nat) + (Int.toNat (inside g.8 (0 : Int) (Int.ofNat (List.length g.5))) - (0 : Nat)) + (1 : Nat)) * (2 : Nat)) (List.drop (0 : Nat) (List.take (((0 : Nat) + (Int.toNat (inside g.8 (0 : Int) (Int.ofNat (List.length g.5))) - (0 : Nat))) * (2 : Nat)) (List.drop (0 : Nat) ([] ++ List.take ((Int.toNat (inside g.8 (0 : Int) (Int.ofNat (List.length g.5))) - (0 : Nat)) * (2 : Nat)) (List.drop (0 : Nat) (gC enF g.5)))) ++ [Value.string (bs g.6), Value.string (bs g.7)]))) true (Ob.cells true)))
                            (br (!y2)
                             (((True ∧ (True ∧ True))) ∧
                             ((true = true) ∧
                             ((Eq (α := List Value) (gC enF e) (gC enF g.3)) ∧
                             ((Plain (gC enF e)) ∧
                             ((Eq (α := List Value) (gC enF r) (gC enF g.4)) ∧
                             ((Plain (gC enF r)) ∧
                             ((Eq (α := List Value) (gC enF q) (gC enF g.5)) ∧
                             ((Plain (gC enF q)) ∧
                             True))))))))
                             (br (decide (alN (Row.mk (List.take (List.length g.5 * (2 : Nat)) (List.drop (0 : Nat) (gC enF g.5))) true (Ob.cells true)) (bs g.6) > (0 : Int)))
                              (((True ∧ (True ∧ True))) ∧
                              ((true = true) ∧
                              ((Eq (α := List Value) (gC enF e) (gC enF g.3)) ∧
                              ((Plain (gC enF e)) ∧
                              ((Eq (α := List Value) (gC enF r) (gC enF g.4)) ∧
                              ((Plain (gC enF r)) ∧
                              ((Eq (α := List Value) (gC enF q) (gC enF g.5)) ∧
                              ((Plain (gC enF q)) ∧
                              True))))))))
                              (br (!matR (Row.mk (List.take (List.length g.3 * (2 : Nat)) (List.drop (0 : Nat) (gC enF g.3))) true (Ob.cells true)) (Row.mk (List.take (List.length g.4 * (2 : Nat)) (List.drop (0 : Nat) (gC enF g.4))) true (Ob.cells true)) (Row.mk (List.take (List.length g.5 * (2 : Nat)) (List.drop (0 : Nat) (gC enF g.5))) true (Ob.cells true)))
                               (((True ∧ (True ∧ True))) ∧
                               ((true = true) ∧
                               ((Eq (α := List Value) (gC enF e) (gC enF g.3)) ∧
                               ((Plain (gC enF e)) ∧
                               ((Eq (α := List Value) (gC enF r) (gC enF g.4)) ∧
                               ((Plain (gC enF r)) ∧
                               ((Eq (α := List Value) (gC enF q) (gC enF g.5)) ∧
                               ((Plain (gC enF q)) ∧
                               True))))))))
                               (br (!matR (Row.mk (List.take (List.length g.3 * (2 : Nat)) (List.drop (0 : Nat) (gC enF g.3))) true (Ob.cells true)) (Row.mk (List.take (List.length g.4 * (2 : Nat)) (List.drop (0 : Nat) (gC enF g.4))) true (Ob.cells true)) (Row.mk (List.take (((0 : Nat) + (Int.toNat (inside g.8 (0 : Int) (Int.ofNat (List.length g.5))) - (0 : Nat)) + (1 : Nat)) * (2 : Nat)) (List.drop (0 : Nat) (List.take (((0 : Nat) + (Int.toNat (inside g.8 (0 : Int) (Int.ofNat (List.length g.5))) - (0 : Nat))) * (2 : Nat)) (List.drop (0 : Nat) ([] ++ List.take ((Int.toNat (inside g.8 (0 : Int) (Int.ofNat (List.length g.5))) - (0 : Nat)) * (2 : Nat)) (List.drop (0 : Nat) (gC enF g.5)))) ++ [Value.string (bs g.6), Value.string (bs g.7)]))) true (Ob.cells true)))
                                (((True ∧ (True ∧ True))) ∧
                                ((true = true) ∧
                                ((Eq (α := List Value) (gC enF e) (gC enF g.3)) ∧
                                ((Plain (gC enF e)) ∧
                                ((Eq (α := List Value) (gC enF r) (gC enF g.4)) ∧
                                ((Plain (gC enF r)) ∧
                                ((Eq (α := List Value) (gC enF q) (gC enF g.5)) ∧
                                ((Plain (gC enF q)) ∧
                                True))))))))
                                ((true = false) ∧
                                ((Eq (α := List Value) (gC enF e) (gC enF g.3)) ∧
                                ((Plain (gC enF e)) ∧
                                ((Eq (α := List Value) (gC enF r) (gC enF g.4)) ∧
                                ((Plain (gC enF r)) ∧
                                ((Eq (α := List Value) (gC enF q) (gC enF g.5)) ∧
                                ((Plain (gC enF q)) ∧
                                True)))))))))))
                            ((true = false) ∧
                            ((Eq (α := List Value) (gC enF e) (gC enF g.3)) ∧
                            ((Plain (gC enF e)) ∧
                            ((Eq (α := List Value) (gC enF r) (gC enF g.4)) ∧
                            ((Plain (gC enF r)) ∧
                            ((Eq (α := List Value) (gC enF q) (gC enF g.5)) ∧
                            ((Plain (gC enF q)) ∧
                            True))))))))))))))))))))
                         False))
                        False))
                       False))
                      False))))))
                     False)))
                   False)
                  False)
                 False)
                False)
               False)
              False)
             (br (decide ((0 : Int) ≤ inside g.8 (0 : Int) (Int.ofNat (List.length g.5)) ∧ inside g.8 (0 : Int) (Int.ofNat (List.length g.5)) ≤ (↑(List.length g.5) : Int) ∧ (↑(List.length g.5) : Int) ≤ (↑(List.length g.5) : Int)))
              (br (decide ((0 : Nat) + Int.toNat (inside g.8 (0 : Int) (Int.ofNat (List.length g.5))) * (2 : Nat) + (Int.toNat (↑(List.length g.5) : Int) - Int.toNat (inside g.8 (0 : Int) (Int.ofNat (List.length g.5)))) * (2 : Nat) ≤ List.length (gC enF g.5)))
               (br (allOne (List.take ((Int.toNat (↑(List.length g.5) : Int) - Int.toNat (inside g.8 (0 : Int) (Int.ofNat (List.length g.5)))) * (2 : Nat)) (List.drop ((0 : Nat) + Int.toNat (inside g.8 (0 : Int) (Int.ofNat (List.length g.5))) * (2 : Nat)) (gC enF g.5))))
                (br (decide ((1 : Nat) + (Int.toNat (↑(List.length g.5) : Int) - Int.toNat (inside g.8 (0 : Int) (Int.ofNat (List.length g.5)))) ≤ (16777216 : Nat)))
                 (br (decide ((0 : Nat) < (1 : Nat) + (Int.toNat (↑(List.length g.5) : Int) - Int.toNat (inside g.8 (0 : Int) (Int.ofNat (List.length g.5)))) ∨ (2 : Nat) = (0 : Nat)))
                  ((Value.slice (some (Addr.mk (2 : Nat) (0 : Nat) none)) (List.length g.5) (2 : Nat) = Value.slice (some (Addr.mk (2 : Nat) (0 : Nat) none)) (List.length g.5) (2 : Nat)) ∧
                  (br (decide ((0 : Int) ≤ (↑(0 : Nat) : Int) ∧ (0 : Int) ≤ inside g.8 (0 : Int) (Int.ofNat (List.length g.5)) ∧ inside g.8 (0 : Int) (Int.ofNat (List.length g.5)) ≤ (↑(List.length g.5) : Int)))
                   ((Value.slice (some (Addr.mk (2 : Nat) (0 : Nat) none)) (Int.toNat (inside g.8 (0 : Int) (Int.ofNat (List.length g.5))) - (0 : Nat)) (2 : Nat) = Value.slice (some (Addr.mk (2 : Nat) (0 : Nat) none)) (Int.toNat (inside g.8 (0 : Int) (Int.ofNat (List.length g.5))) - (0 : Nat)) (2 : Nat)) ∧
                   ((Value.slice (some (Addr.mk (2 : Nat) (0 : Nat) none)) (List.length g.5) (2 : Nat) = Value.slice (some (Addr.mk (2 : Nat) (0 : Nat) none)) (List.length g.5) (2 : Nat)) ∧
                   ((Value.slice (some (Addr.mk (2 : Nat) (0 : Nat) none)) (List.length g.5) (2 : Nat) = Value.slice (some (Addr.mk (2 : Nat) (0 : Nat) none)) (List.length g.5) (2 : Nat)) ∧
                   ((Value.slice (some (Addr.mk (2 : Nat) (0 : Nat) none)) (List.length g.5) (2 : Nat) = Value.slice (some (Addr.mk (2 : Nat) (0 : Nat) none)) (List.length g.5) (2 : Nat)) ∧
                   ((Value.slice (some (Addr.mk (2 : Nat) (0 : Nat) none)) (List.length g.5) (2 : Nat) = Value.slice (some (Addr.mk (2 : Nat) (0 : Nat) none)) (List.length g.5) (2 : Nat)) ∧
                   (br (decide ((0 : Int) ≤ inside g.8 (0 : Int) (Int.ofNat (List.length g.5)) ∧ inside g.8 (0 : Int) (Int.ofNat (List.length g.5)) ≤ (↑(List.length g.5) : Int) ∧ (↑(List.length g.5) : Int) ≤ (↑(List.length g.5) : Int)))
                    ((Value.slice (some (Addr.mk (2 : Nat) ((0 : Nat) + Int.toNat (inside g.8 (0 : Int) (Int.ofNat (List.length g.5))) * (2 : Nat)) none)) (Int.toNat (↑(List.length g.5) : Int) - Int.toNat (inside g.8 (0 : Int) (Int.ofNat (List.length g.5)))) (2 : Nat) = Value.slice (some (Addr.mk (2 : Nat) ((0 : Nat) + Int.toNat (inside g.8 (0 : Int) (Int.ofNat (List.length g.5))) * (2 : Nat)) none)) (Int.toNat (↑(List.length g.5) : Int) - Int.toNat (inside g.8 (0 : Int) (Int.ofNat (List.length g.5)))) (2 : Nat)) ∧
                    (br (decide ((0 : Int) ≤ inside g.8 (0 : Int) (Int.ofNat (List.length g.5)) ∧ inside g.8 (0 : Int) (Int.ofNat (List.length g.5)) ≤ (↑(List.length g.5) : Int) ∧ (↑(List.length g.5) : Int) ≤ (↑(List.length g.5) : Int)))
                     ((Value.slice (some (Addr.mk (2 : Nat) ((0 : Nat) + Int.toNat (inside g.8 (0 : Int) (Int.ofNat (List.length g.5))) * (2 : Nat)) none)) (Int.toNat (↑(List.length g.5) : Int) - Int.toNat (inside g.8 (0 : Int) (Int.ofNat (List.length g.5)))) (2 : Nat) = Value.slice (some (Addr.mk (2 : Nat) ((0 : Nat) + Int.toNat (inside g.8 (0 : Int) (Int.ofNat (List.length g.5))) * (2 : Nat)) none)) (Int.toNat (↑(List.length g.5) : Int) - Int.toNat (inside g.8 (0 : Int) (Int.ofNat (List.length g.5)))) (2 : Nat)) ∧
                     (br (decide ((0 : Int) ≤ inside g.8 (0 : Int) (Int.ofNat (List.length g.5)) ∧ inside g.8 (0 : Int) (Int.ofNat (List.length g.5)) ≤ (↑(List.length g.5) : Int) ∧ (↑(List.length g.5) : Int) ≤ (↑(List.length g.5) : Int)))
                      ((Value.slice (some (Addr.mk (2 : Nat) ((0 : Nat) + Int.toNat (inside g.8 (0 : Int) (Int.ofNat (List.length g.5))) * (2 : Nat)) none)) (Int.toNat (↑(List.length g.5) : Int) - Int.toNat (inside g.8 (0 : Int) (Int.ofNat (List.length g.5)))) (2 : Nat) = Value.slice (some (Addr.mk (2 : Nat) ((0 : Nat) + Int.toNat (inside g.8 (0 : Int) (Int.ofNat (List.length g.5))) * (2 : Nat)) none)) (Int.toNat (↑(List.length g.5) : Int) - Int.toNat (inside g.8 (0 : Int) (Int.ofNat (List.length g.5)))) (2 : Nat)) ∧
                      (br (decide ((0 : Int) ≤ inside g.8 (0 : Int) (Int.ofNat (List.length g.5)) ∧ inside g.8 (0 : Int) (Int.ofNat (List.length g.5)) ≤ (↑(List.length g.5) : Int) ∧ (↑(List.length g.5) : Int) ≤ (↑(List.length g.5) : Int)))
                       ((Value.slice (some (Addr.mk (2 : Nat) ((0 : Nat) + Int.toNat (inside g.8 (0 : Int) (Int.ofNat (List.length g.5))) * (2 : Nat)) none)) (Int.toNat (↑(List.length g.5) : Int) - Int.toNat (inside g.8 (0 : Int) (Int.ofNat (List.length g.5)))) (2 : Nat) = Value.slice (some (Addr.mk (2 : Nat) ((0 : Nat) + Int.toNat (inside g.8 (0 : Int) (Int.ofNat (List.length g.5))) * (2 : Nat)) none)) (Int.toNat (↑(List.length g.5) : Int) - Int.toNat (inside g.8 (0 : Int) (Int.ofNat (List.length g.5)))) (2 : Nat)) ∧
                       ((((((0 : Nat) + List.length g.5 * (2 : Nat) ≤ List.length (gC enF g.5) ∧ Plain (List.take (List.length g.5 * (2 : Nat)) (List.drop (0 : Nat) (gC enF g.5)))) ∧ (True ∧ True)) ∧ (True ∧ (IsF (Row.mk (List.take (List.length g.5 * (2 : Nat)) (List.drop (0 : Nat) (gC enF g.5))) true (Ob.cells true)) (List.length g.5) ∧ (List.length g.5 ≤ (9223372036854775807 : Nat) ∧ alB (Row.mk (List.take (List.length g.5 * (2 : Nat)) (List.drop (0 : Nat) (gC enF g.5))) true (Ob.cells true)) (bs g.6) ≤ (16777216 : Nat)))))) ∧
                       (((((True ∧ (True ∧ (True ∧ (True ∧ (((0 : Nat) + List.length g.3 * (2 : Nat) ≤ List.length (gC enF g.3) ∧ Plain (List.take (List.length g.3 * (2 : Nat)) (List.drop (0 : Nat) (gC enF g.3)))) ∧ (True ∧ (True ∧ (((0 : Nat) + List.length g.4 * (2 : Nat) ≤ List.length (gC enF g.4) ∧ Plain (List.take (List.length g.4 * (2 : Nat)) (List.drop (0 : Nat) (gC enF g.4)))) ∧ (True ∧ (True ∧ (True ∧ (True ∧ True)))))))))))) ∧ ((True ∧ (True ∧ (True ∧ (True ∧ (((0 : Nat) + List.length g.5 * (2 : Nat) ≤ List.length (gC enF g.5) ∧ Plain (List.take (List.length g.5 * (2 : Nat)) (List.drop (0 : Nat) (gC enF g.5)))) ∧ (True ∧ True)))))) ∧ True)) ∧ (True ∧ (IsF (Row.mk (List.take (List.length g.3 * (2 : Nat)) (List.drop (0 : Nat) (gC enF g.3))) true (Ob.cells true)) (List.length g.3) ∧ (IsF (Row.mk (List.take (List.length g.4 * (2 : Nat)) (List.drop (0 : Nat) (gC enF g.4))) true (Ob.cells true)) (List.length g.4) ∧ (IsF (Row.mk (List.take (List.length g.5 * (2 : Nat)) (List.drop (0 : Nat) (gC enF g.5))) true (Ob.cells true)) (List.length g.5) ∧ (List.length g.3 ≤ (9223372036854775807 : Nat) ∧ (List.length g.4 ≤ (9223372036854775807 : Nat) ∧ (List.length g.5 ≤ (9223372036854775807 : Nat) ∧ (BigV1 (Row.mk (List.take (List.length g.3 * (2 : Nat)) (List.drop (0 : Nat) (gC enF g.3))) true (Ob.cells true)) ∧ (BigV1 (Row.mk (List.take (List.length g.4 * (2 : Nat)) (List.drop (0 : Nat) (gC enF g.4))) true (Ob.cells true)) ∧ BigV1 (Row.mk (List.take (List.length g.5 * (2 : Nat)) (List.drop (0 : Nat) (gC enF g.5))) true (Ob.cells true))))))))))))) ∧
                       (((((True ∧ (True ∧ (True ∧ (True ∧ (((0 : Nat) + List.length g.3 * (2 : Nat) ≤ List.length (gC enF g.3) ∧ Plain (List.take (List.length g.3 * (2 : Nat)) (List.drop (0 : Nat) (gC enF g.3)))) ∧ (True ∧ (True ∧ (((0 : Nat) + List.length g.4 * (2 : Nat) ≤ List.length (gC enF g.4) ∧ Plain (List.take (List.length g.4 * (2 : Nat)) (List.drop (0 : Nat) (gC enF g.4)))) ∧ (True ∧ (True ∧ (True ∧ (True ∧ True)))))))))))) ∧ ((True ∧ (True ∧ (True ∧ (True ∧ (((0 : Nat) + ((1 : Nat) + (Int.toNat (↑(List.length g.5) : Int) - Int.toNat (inside g.8 (0 : Int) (Int.ofNat (List.length g.5))))) * (2 : Nat) ≤ List.length (Value.string (bs g.6) :: Value.string (bs g.7) :: (Nat.brecOn.go (motive := fun x ↦ List Value → List Value) ((Int.toNat (↑(List.length (GVx.q g)) : Int) - Int.toNat (inside (GVx.at_ g) (0 : Int) (Int.ofNat (List.length (GVx.q g))))) * TypeInfo.size (Tables.types (Program.toTables (Env.P EVx)))[(34 : Nat)]) List.take._f).1 (List.drop ((0 : Nat) + Int.toNat (inside (GVx.at_ g) (0 : Int) (Int.ofNat (List.length (GVx.q g)))) * TypeInfo.size (Tables.types (Program.toTables (Env.P EVx)))[(34 : Nat)]) (gC enF (GVx.q g)))) ∧ Plain (List.take (((1 : Nat) + (Int.toNat (↑(List.length g.5) : Int) - Int.toNat (inside g.8 (0 : Int) (Int.ofNat (List.length g.5))))) * (2 : Nat)) (Value.string (bs g.6) :: Value.string (bs g.7) :: (Nat.brecOn.go (motive := fun x ↦ List Value → List Value) ((Int.toNat (↑(List.length (GVx.q g)) : Int) - Int.toNat (inside (GVx.at_ g) (0 : Int) (Int.ofNat (List.length (GVx.q g))))) * TypeInfo.size (Tables.types (Program.toTables (Env.P EVx)))[(34 : Nat)]) List.take._f).1 (List.drop ((0 : Nat) + Int.toNat (inside (GVx.at_ g) (0 : Int) (Int.ofNat (List.length (GVx.q g)))) * TypeInfo.size (Tables.types (Program.toTables (Env.P EVx)))[(34 : Nat)]) (gC enF (GVx.q g)))))) ∧ (True ∧ True)))))) ∧ True)) ∧ (True ∧ (IsF (Row.mk (List.take (List.length g.3 * (2 : Nat)) (List.drop (0 : Nat) (gC enF g.3))) true (Ob.cells true)) (List.length g.3) ∧ (IsF (Row.mk (List.take (List.length g.4 * (2 : Nat)) (List.drop (0 : Nat) (gC enF g.4))) true (Ob.cells true)) (List.length g.4) ∧ (IsF (Row.mk (List.take (((1 : Nat) + (Int.toNat (↑(List.length g.5) : Int) - Int.toNat (inside g.8 (0 : Int) (Int.ofNat (List.length g.5))))) * (2 : Nat)) (Value.string (bs g.6) :: Value.string (bs g.7) :: (Nat.brecOn.go (motive := fun x ↦ List Value → List Value) ((Int.toNat (↑(List.length (GVx.q g)) : Int) - Int.toNat (inside (GVx.at_ g) (0 : Int) (Int.ofNat (List.length (GVx.q g))))) * TypeInfo.size (Tables.types (Program.toTables (Env.P EVx)))[(34 : Nat)]) List.take._f).1 (List.drop ((0 : Nat) + Int.toNat (inside (GVx.at_ g) (0 : Int) (Int.ofNat (List.length (GVx.q g)))) * TypeInfo.size (Tables.types (Program.toTables (Env.P EVx)))[(34 : Nat)]) (gC enF (GVx.q g))))) true (Ob.cells true)) ((1 : Nat) + (Int.toNat (↑(List.length g.5) : Int) - Int.toNat (inside g.8 (0 : Int) (Int.ofNat (List.length g.5))))) ∧ (List.length g.3 ≤ (9223372036854775807 : Nat) ∧ (List.length g.4 ≤ (9223372036854775807 : Nat) ∧ ((1 : Nat) + (Int.toNat (↑(List.length g.5) : Int) - Int.toNat (inside g.8 (0 : Int) (Int.ofNat (List.length g.5)))) ≤ (9223372036854775807 : Nat) ∧ (BigV1 (Row.mk (List.take (List.length g.3 * (2 : Nat)) (List.drop (0 : Nat) (gC enF g.3))) true (Ob.cells true)) ∧ (BigV1 (Row.mk (List.take (List.length g.4 * (2 : Nat)) (List.drop (0 : Nat) (gC enF g.4))) true (Ob.cells true)) ∧ BigV1 (Row.mk (List.take (((1 : Nat) + (Int.toNat (↑(List.length g.5) : Int) - Int.toNat (inside g.8 (0 : Int) (Int.ofNat (List.length g.5))))) * (2 : Nat)) (Value.string (bs g.6) :: Value.string (bs g.7) :: (Nat.brecOn.go (motive := fun x ↦ List Value → List Value) ((Int.toNat (↑(List.length (GVx.q g)) : Int) - Int.toNat (inside (GVx.at_ g) (0 : Int) (Int.ofNat (List.length (GVx.q g))))) * TypeInfo.size (Tables.types (Program.toTables (Env.P EVx)))[(34 : Nat)]) List.take._f).1 (List.drop ((0 : Nat) + Int.toNat (inside (GVx.at_ g) (0 : Int) (Int.ofNat (List.length (GVx.q g)))) * TypeInfo.size (Tables.types (Program.toTables (Env.P EVx)))[(34 : Nat)]) (gC enF (GVx.q g))))) true (Ob.cells true))))))))))))) ∧
                       ((Value.agg (Array.mk [Value.string g.1.1, Value.string g.1.2, Value.string g.1.3, Value.string g.1.4, Value.slice (some (Addr.mk (0 : Nat) (0 : Nat) none)) (List.length g.3) (2 : Nat), Value.int IntKind.i64 g.1.5, Value.int IntKind.i64 g.1.6, Value.slice (some (Addr.mk (1 : Nat) (0 : Nat) none)) (List.length g.4) (2 : Nat), Value.int IntKind.i64 g.1.7, Value.string g.1.8, Value.int IntKind.i64 g.1.9, Value.int IntKind.i64 g.1.10]) = Value.agg (Array.mk [Value.string g.1.1, Value.string g.1.2, Value.string g.1.3, Value.string g.1.4, Value.slice (some (Addr.mk (0 : Nat) (0 : Nat) none)) (List.length g.3) (2 : Nat), Value.int IntKind.i64 g.1.5, Value.int IntKind.i64 g.1.6, Value.slice (some (Addr.mk (1 : Nat) (0 : Nat) none)) (List.length g.4) (2 : Nat), Value.int IntKind.i64 g.1.7, Value.string g.1.8, Value.int IntKind.i64 g.1.9, Value.int IntKind.i64 g.1.10])) ∧
                       ((Value.agg (Array.mk [Value.string g.2.1, Value.string g.2.2, Value.string g.2.3, Value.string g.2.4, Value.slice (some (Addr.mk (2 : Nat) (0 : Nat) none)) (List.length g.5) (2 : Nat), Value.int IntKind.i64 g.2.5]) = Value.agg (Array.mk [Value.string g.2.1, Value.string g.2.2, Value.string g.2.3, Value.string g.2.4, Value.slice (some (Addr.mk (2 : Nat) (0 : Nat) none)) (List.length g.5) (2 : Nat), Value.int IntKind.i64 g.2.5])) ∧
                       ((Value.agg (Array.mk [Value.string g.1.1, Value.string g.1.2, Value.string g.1.3, Value.string g.1.4, Value.slice (some (Addr.mk (0 : Nat) (0 : Nat) none)) (List.length g.3) (2 : Nat), Value.int IntKind.i64 g.1.5, Value.int IntKind.i64 g.1.6, Value.slice (some (Addr.mk (1 : Nat) (0 : Nat) none)) (List.length g.4) (2 : Nat), Value.int IntKind.i64 g.1.7, Value.string g.1.8, Value.int IntKind.i64 g.1.9, Value.int IntKind.i64 g.1.10]) = Value.agg (Array.mk [Value.string g.1.1, Value.string g.1.2, Value.string g.1.3, Value.string g.1.4, Value.slice (some (Addr.mk (0 : Nat) (0 : Nat) none)) (List.length g.3) (2 : Nat), Value.int IntKind.i64 g.1.5, Value.int IntKind.i64 g.1.6, Value.slice (some (Addr.mk (1 : Nat) (0 : Nat) none)) (List.length g.4) (2 : Nat), Value.int IntKind.i64 g.1.7, Value.string g.1.8, Value.int IntKind.i64 g.1.9, Value.int IntKind.i64 g.1.10])) ∧
                       ((Value.agg (Array.mk [Value.string g.1.1, Value.string g.1.2, Value.string g.1.3, Value.string g.1.4, Value.slice (some (Addr.mk (0 : Nat) (0 : Nat) none)) (List.length g.3) (2 : Nat), Value.int IntKind.i64 g.1.5, Value.int IntKind.i64 g.1.6, Value.slice (some (Addr.mk (1 : Nat) (0 : Nat) none)) (List.length g.4) (2 : Nat), Value.int IntKind.i64 g.1.7, Value.string g.1.8, Value.int IntKind.i64 g.1.9, Value.int IntKind.i64 g.1.10]) = Value.agg (Array.mk [Value.string g.1.1, Value.string g.1.2, Value.string g.1.3, Value.string g.1.4, Value.slice (some (Addr.mk (0 : Nat) (0 : Nat) none)) (List.length g.3) (2 : Nat), Value.int IntKind.i64 g.1.5, Value.int IntKind.i64 g.1.6, Value.slice (some (Addr.mk (1 : Nat) (0 : Nat) none)) (List.length g.4) (2 : Nat), Value.int IntKind.i64 g.1.7, Value.string g.1.8, Value.int IntKind.i64 g.1.9, Value.int IntKind.i64 g.1.10])) ∧
                       ((Value.agg (Array.mk [Value.string g.2.1, Value.string g.2.2, Value.string g.2.3, Value.string g.2.4, Value.slice (some (Addr.mk (26 : Nat) (0 : Nat) none)) ((1 : Nat) + (Int.toNat (↑(List.length g.5) : Int) - Int.toNat (inside g.8 (0 : Int) (Int.ofNat (List.length g.5))))) (2 : Nat), Value.int IntKind.i64 g.2.5]) = Value.agg (Array.mk [Value.string g.2.1, Value.string g.2.2, Value.string g.2.3, Value.string g.2.4, Value.slice (some (Addr.mk (26 : Nat) (0 : Nat) none)) ((1 : Nat) + (Int.toNat (↑(List.length g.5) : Int) - Int.toNat (inside g.8 (0 : Int) (Int.ofNat (List.length g.5))))) (2 : Nat), Value.int IntKind.i64 g.2.5])) ∧
                       ((Value.agg (Array.mk [Value.string g.2.1, Value.string g.2.2, Value.string g.2.3, Value.string g.2.4, Value.slice (some (Addr.mk (26 : Nat) (0 : Nat) none)) ((1 : Nat) + (Int.toNat (↑(List.length g.5) : Int) - Int.toNat (inside g.8 (0 : Int) (Int.ofNat (List.length g.5))))) (2 : Nat), Value.int IntKind.i64 g.2.5]) = Value.agg (Array.mk [Value.string g.2.1, Value.string g.2.2, Value.string g.2.3, Value.string g.2.4, Value.slice (some (Addr.mk (26 : Nat) (0 : Nat) none)) ((1 : Nat) + (Int.toNat (↑(List.length g.5) : Int) - Int.toNat (inside g.8 (0 : Int) (Int.ofNat (List.length g.5))))) (2 : Nat), Value.int IntKind.i64 g.2.5])) ∧
                       (br (g.10)
                        (br (!matR (Row.mk (List.take (List.length g.3 * (2 : Nat)) (List.drop (0 : Nat) (gC enF g.3))) true (Ob.cells true)) (Row.mk (List.take (List.length g.4 * (2 : Nat)) (List.drop (0 : Nat) (gC enF g.4))) true (Ob.cells true)) (Row.mk (List.take (List.length g.5 * (2 : Nat)) (List.drop (0 : Nat) (gC enF g.5))) true (Ob.cells true)))
                         (br (!matR (Row.mk (List.take (List.length g.3 * (2 : Nat)) (List.drop (0 : Nat) (gC enF g.3))) true (Ob.cells true)) (Row.mk (List.take (List.length g.4 * (2 : Nat)) (List.drop (0 : Nat) (gC enF g.4))) true (Ob.cells true)) (Row.mk (List.take (((1 : Nat) + (Int.toNat (↑(List.length g.5) : Int) - Int.toNat (inside g.8 (0 : Int) (Int.ofNat (List.length g.5))))) * (2 : Nat)) (Value.string (bs g.6) :: Value.string (bs g.7) :: (Nat.brecOn.go (motive := fun x ↦ List Value → List Value) ((Int.toNat (↑(List.length (GVx.q g)) : Int) - Int.toNat (inside (GVx.at_ g) (0 : Int) (Int.ofNat (List.length (GVx.q g))))) * TypeInfo.size (Tables.types (Program.toTables (Env.P EVx)))[(34 : Nat)]) List.take._f).1 (List.drop ((0 : Nat) + Int.toNat (inside (GVx.at_ g) (0 : Int) (Int.ofNat (List.length (GVx.q g)))) * TypeInfo.size (Tables.types (Program.toTables (Env.P EVx)))[(34 : Nat)]) (gC enF (GVx.q g))))) true (Ob.cells true)))
                          (((True ∧ (True ∧ True))) ∧
                          ((true = true) ∧
                          ((Eq (α := List Value) (gC enF e) (gC enF g.3)) ∧
                          ((Plain (gC enF e)) ∧
                          ((Eq (α := List Value) (gC enF r) (gC enF g.4)) ∧
                          ((Plain (gC enF r)) ∧
                          ((Eq (α := List Value) (gC enF q) (gC enF g.5)) ∧
                          ((Plain (gC enF q)) ∧
                          True))))))))
                          ((true = false) ∧
                          ((Eq (α := List Value) (gC enF e) (gC enF g.3)) ∧
                          ((Plain (gC enF e)) ∧
                          ((Eq (α := List Value) (gC enF r) (gC enF g.4)) ∧
                          ((Plain (gC enF r)) ∧
                          ((Eq (α := List Value) (gC enF q) (gC enF g.5)) ∧
                          ((Plain (gC enF q)) ∧
                          True))))))))
                         ((true = false) ∧
                         ((Eq (α := List Value) (gC enF e) (gC enF g.3)) ∧
                         ((Plain (gC enF e)) ∧
                         ((Eq (α := List Value) (gC enF r) (gC enF g.4)) ∧
                         ((Plain (gC enF r)) ∧
                         ((Eq (α := List Value) (gC enF q) (gC enF g.5)) ∧
                         ((Plain (gC enF q)) ∧
                         True))))))))
                        (br (y2)
                         (br (!y2)
                          (((True ∧ (True ∧ True))) ∧
                          ((true = true) ∧
                          ((Eq (α := List Value) (gC enF e) (gC enF g.3)) ∧
                          ((Plain (gC enF e)) ∧
                          ((Eq (α := List Value) (gC enF r) (gC enF g.4)) ∧
                          ((Plain (gC enF r)) ∧
                          ((Eq (α := List Value) (gC enF q) (gC enF g.5)) ∧
                          ((Plain (gC enF q)) ∧
                          True))))))))
                          (br (decide (alN (Row.mk (List.take (List.length g.5 * (2 : Nat)) (List.drop (0 : Nat) (gC enF g.5))) true (Ob.cells true)) (bs g.6) > (0 : Int)))
                           (((True ∧ (True ∧ True))) ∧
                           ((true = true) ∧
                           ((Eq (α := List Value) (gC enF e) (gC enF g.3)) ∧
                           ((Plain (gC enF e)) ∧
                           ((Eq (α := List Value) (gC enF r) (gC enF g.4)) ∧
                           ((Plain (gC enF r)) ∧
                           ((Eq (α := List Value) (gC enF q) (gC enF g.5)) ∧
                           ((Plain (gC enF q)) ∧
                           True))))))))
                           (br (!matR (Row.mk (List.take (List.length g.3 * (2 : Nat)) (List.drop (0 : Nat) (gC enF g.3))) true (Ob.cells true)) (Row.mk (List.take (List.length g.4 * (2 : Nat)) (List.drop (0 : Nat) (gC enF g.4))) true (Ob.cells true)) (Row.mk (List.take (List.length g.5 * (2 : Nat)) (List.drop (0 : Nat) (gC enF g.5))) true (Ob.cells true)))
                            (((True ∧ (True ∧ True))) ∧
                            ((true = true) ∧
                            ((Eq (α := List Value) (gC enF e) (gC enF g.3)) ∧
                            ((Plain (gC enF e)) ∧
                            ((Eq (α := List Value) (gC enF r) (gC enF g.4)) ∧
                            ((Plain (gC enF r)) ∧
                            ((Eq (α := List Value) (gC enF q) (gC enF g.5)) ∧
                            ((Plain (gC enF q)) ∧
                            True))))))))
                            (br (!matR (Row.mk (List.take (List.length g.3 * (2 : Nat)) (List.drop (0 : Nat) (gC enF g.3))) true (Ob.cells true)) (Row.mk (List.take (List.length g.4 * (2 : Nat)) (List.drop (0 : Nat) (gC enF g.4))) true (Ob.cells true)) (Row.mk (List.take (((1 : Nat) + (Int.toNat (↑(List.length g.5) : Int) - Int.toNat (inside g.8 (0 : Int) (Int.ofNat (List.length g.5))))) * (2 : Nat)) (Value.string (bs g.6) :: Value.string (bs g.7) :: (Nat.brecOn.go (motive := fun x ↦ List Value → List Value) ((Int.toNat (↑(List.length (GVx.q g)) : Int) - Int.toNat (inside (GVx.at_ g) (0 : Int) (Int.ofNat (List.length (GVx.q g))))) * TypeInfo.size (Tables.types (Program.toTables (Env.P EVx)))[(34 : Nat)]) List.take._f).1 (List.drop ((0 : Nat) + Int.toNat (inside (GVx.at_ g) (0 : Int) (Int.ofNat (List.length (GVx.q g)))) * TypeInfo.size (Tables.types (Program.toTables (Env.P EVx)))[(34 : Nat)]) (gC enF (GVx.q g))))) true (Ob.cells true)))
                             (((True ∧ (True ∧ True))) ∧
                             ((true = true) ∧
                             ((Eq (α := List Value) (gC enF e) (gC enF g.3)) ∧
                             ((Plain (gC enF e)) ∧
                             ((Eq (α := List Value) (gC enF r) (gC enF g.4)) ∧
                             ((Plain (gC enF r)) ∧
                             ((Eq (α := List Value) (gC enF q) (gC enF g.5)) ∧
                             ((Plain (gC enF q)) ∧
                             True))))))))
                             ((true = false) ∧
                             ((Eq (α := List Value) (gC enF e) (gC enF g.3)) ∧
                             ((Plain (gC enF e)) ∧
                             ((Eq (α := List Value) (gC enF r) (gC enF g.4)) ∧
                             ((Plain (gC enF r)) ∧
                             ((Eq (α := List Value) (gC enF q) (gC enF g.5)) ∧
                             ((Plain (gC enF q)) ∧
                             True)))))))))))
                         (br (matR (Row.mk (List.take (List.length g.3 * (2 : Nat)) (List.drop (0 : Nat) (gC enF g.3))) true (Ob.cells true)) (Row.mk (List.take (List.length g.4 * (2 : Nat)) (List.drop (0 : Nat) (gC enF g.4))) true (Ob.cells true)) (Row.mk (List.take (List.length g.5 * (2 : Nat)) (List.drop (0 : Nat) (gC enF g.5))) true (Ob.cells true)) == matR (Row.mk (List.take (List.length g.3 * (2 : Nat)) (List.drop (0 : Nat) (gC enF g.3))) true (Ob.cells true)) (Row.mk (List.take (List.length g.4 * (2 : Nat)) (List.drop (0 : Nat) (gC enF g.4))) true (Ob.cells true)) (Row.mk (List.take (((1 : Nat) + (Int.toNat (↑(List.length g.5) : Int) - Int.toNat (inside g.8 (0 : Int) (Int.ofNat (List.length g.5))))) * (2 : Nat)) (Value.string (bs g.6) :: Value.string (bs g.7) :: (Nat.brecOn.go (motive := fun x ↦ List Value → List Value) ((Int.toNat (↑(List.length (GVx.q g)) : Int) - Int.toNat (inside (GVx.at_ g) (0 : Int) (Int.ofNat (List.length (GVx.q g))))) * TypeInfo.size (Tables.types (Program.toTables (Env.P EVx)))[(34 : Nat)]) List.take._f).1 (List.drop ((0 : Nat) + Int.toNat (inside (GVx.at_ g) (0 : Int) (Int.ofNat (List.length (GVx.q g)))) * TypeInfo.size (Tables.types (Program.toTables (Env.P EVx)))[(34 : Nat)]) (gC enF (GVx.q g))))) true (Ob.cells true)))
                          (br (!y2)
                           (((True ∧ (True ∧ True))) ∧
                           ((true = true) ∧
                           ((Eq (α := List Value) (gC enF e) (gC enF g.3)) ∧
                           ((Plain (gC enF e)) ∧
                           ((Eq (α := List Value) (gC enF r) (gC enF g.4)) ∧
                           ((Plain (gC enF r)) ∧
                           ((Eq (α := List Value) (gC enF q) (gC enF g.5)) ∧
                           ((Plain (gC enF q)) ∧
                           True))))))))
                           (br (decide (alN (Row.mk (List.take (List.length g.5 * (2 : Nat)) (List.drop (0 : Nat) (gC enF g.5))) true (Ob.cells true)) (bs g.6) > (0 : Int)))
                            (((True ∧ (True ∧ True))) ∧
                            ((true = true) ∧
                            ((Eq (α := List Value) (gC enF e) (gC enF g.3)) ∧
                            ((Plain (gC enF e)) ∧
                            ((Eq (α := List Value) (gC enF r) (gC enF g.4)) ∧
                            ((Plain (gC enF r)) ∧
                            ((Eq (α := List Value) (gC enF q) (gC enF g.5)) ∧
                            ((Plain (gC enF q)) ∧
                            True))))))))
                            (br (!matR (Row.mk (List.take (List.length g.3 * (2 : Nat)) (List.drop (0 : Nat) (gC enF g.3))) true (Ob.cells true)) (Row.mk (List.take (List.length g.4 * (2 : Nat)) (List.drop (0 : Nat) (gC enF g.4))) true (Ob.cells true)) (Row.mk (List.take (List.length g.5 * (2 : Nat)) (List.drop (0 : Nat) (gC enF g.5))) true (Ob.cells true)))
                             (((True ∧ (True ∧ True))) ∧
                             ((true = true) ∧
                             ((Eq (α := List Value) (gC enF e) (gC enF g.3)) ∧
                             ((Plain (gC enF e)) ∧
                             ((Eq (α := List Value) (gC enF r) (gC enF g.4)) ∧
                             ((Plain (gC enF r)) ∧
                             ((Eq (α := List Value) (gC enF q) (gC enF g.5)) ∧
                             ((Plain (gC enF q)) ∧
                             True))))))))
                             (br (!matR (Row.mk (List.take (List.length g.3 * (2 : Nat)) (List.drop (0 : Nat) (gC enF g.3))) true (Ob.cells true)) (Row.mk (List.take (List.length g.4 * (2 : Nat)) (List.drop (0 : Nat) (gC enF g.4))) true (Ob.cells true)) (Row.mk (List.take (((1 : Nat) + (Int.toNat (↑(List.length g.5) : Int) - Int.toNat (inside g.8 (0 : Int) (Int.ofNat (List.length g.5))))) * (2 : Nat)) (Value.string (bs g.6) :: Value.string (bs g.7) :: (Nat.brecOn.go (motive := fun x ↦ List Value → List Value) ((Int.toNat (↑(List.length (GVx.q g)) : Int) - Int.toNat (inside (GVx.at_ g) (0 : Int) (Int.ofNat (List.length (GVx.q g))))) * TypeInfo.size (Tables.types (Program.toTables (Env.P EVx)))[(34 : Nat)]) List.take._f).1 (List.drop ((0 : Nat) + Int.toNat (inside (GVx.at_ g) (0 : Int) (Int.ofNat (List.length (GVx.q g)))) * TypeInfo.size (Tables.types (Program.toTables (Env.P EVx)))[(34 : Nat)]) (gC enF (GVx.q g))))) true (Ob.cells true)))
                              (((True ∧ (True ∧ True))) ∧
                              ((true = true) ∧
                              ((Eq (α := List Value) (gC enF e) (gC enF g.3)) ∧
                              ((Plain (gC enF e)) ∧
                              ((Eq (α := List Value) (gC enF r) (gC enF g.4)) ∧
                              ((Plain (gC enF r)) ∧
                              ((Eq (α := List Value) (gC enF q) (gC enF g.5)) ∧
                              ((Plain (gC enF q)) ∧
                              True))))))))
                              ((true = false) ∧
                              ((Eq (α := List Value) (gC enF e) (gC enF g.3)) ∧
                              ((Plain (gC enF e)) ∧
                              ((Eq (α := List Value) (gC enF r) (gC enF g.4)) ∧
                              ((Plain (gC enF r)) ∧
                              ((Eq (α := List Value) (gC enF q) (gC enF g.5)) ∧
                              ((Plain (gC enF q)) ∧
                              True)))))))))))
                          ((true = false) ∧
                          ((Eq (α := List Value) (gC enF e) (gC enF g.3)) ∧
                          ((Plain (gC enF e)) ∧
                          ((Eq (α := List Value) (gC enF r) (gC enF g.4)) ∧
                          ((Plain (gC enF r)) ∧
                          ((Eq (α := List Value) (gC enF q) (gC enF g.5)) ∧
                          ((Plain (gC enF q)) ∧
                          True))))))))))))))))))))
                       False))
                      False))
                     False))
                    False))))))
                   False))
                  ((Value.slice (some (Addr.mk (2 : Nat) (0 : Nat) none)) (List.length g.5) (2 : Nat) = Value.slice (some (Addr.mk (2 : Nat) (0 : Nat) none)) (List.length g.5) (2 : Nat)) ∧
                  (br (decide ((0 : Int) ≤ (↑(0 : Nat) : Int) ∧ (0 : Int) ≤ inside g.8 (0 : Int) (Int.ofNat (List.length g.5)) ∧ inside g.8 (0 : Int) (Int.ofNat (List.length g.5)) ≤ (↑(List.length g.5) : Int)))
                   ((Value.slice (some (Addr.mk (2 : Nat) (0 : Nat) none)) (Int.toNat (inside g.8 (0 : Int) (Int.ofNat (List.length g.5))) - (0 : Nat)) (2 : Nat) = Value.slice (some (Addr.mk (2 : Nat) (0 : Nat) none)) (Int.toNat (inside g.8 (0 : Int) (Int.ofNat (List.length g.5))) - (0 : Nat)) (2 : Nat)) ∧
                   ((Value.slice (some (Addr.mk (2 : Nat) (0 : Nat) none)) (List.length g.5) (2 : Nat) = Value.slice (some (Addr.mk (2 : Nat) (0 : Nat) none)) (List.length g.5) (2 : Nat)) ∧
                   ((Value.slice (some (Addr.mk (2 : Nat) (0 : Nat) none)) (List.length g.5) (2 : Nat) = Value.slice (some (Addr.mk (2 : Nat) (0 : Nat) none)) (List.length g.5) (2 : Nat)) ∧
                   ((Value.slice (some (Addr.mk (2 : Nat) (0 : Nat) none)) (List.length g.5) (2 : Nat) = Value.slice (some (Addr.mk (2 : Nat) (0 : Nat) none)) (List.length g.5) (2 : Nat)) ∧
                   ((Value.slice (some (Addr.mk (2 : Nat) (0 : Nat) none)) (List.length g.5) (2 : Nat) = Value.slice (some (Addr.mk (2 : Nat) (0 : Nat) none)) (List.length g.5) (2 : Nat)) ∧
                   (br (decide ((0 : Int) ≤ inside g.8 (0 : Int) (Int.ofNat (List.length g.5)) ∧ inside g.8 (0 : Int) (Int.ofNat (List.length g.5)) ≤ (↑(List.length g.5) : Int) ∧ (↑(List.length g.5) : Int) ≤ (↑(List.length g.5) : Int)))
                    ((Value.slice (some (Addr.mk (2 : Nat) ((0 : Nat) + Int.toNat (inside g.8 (0 : Int) (Int.ofNat (List.length g.5))) * (2 : Nat)) none)) (Int.toNat (↑(List.length g.5) : Int) - Int.toNat (inside g.8 (0 : Int) (Int.ofNat (List.length g.5)))) (2 : Nat) = Value.slice (some (Addr.mk (2 : Nat) ((0 : Nat) + Int.toNat (inside g.8 (0 : Int) (Int.ofNat (List.length g.5))) * (2 : Nat)) none)) (Int.toNat (↑(List.length g.5) : Int) - Int.toNat (inside g.8 (0 : Int) (Int.ofNat (List.length g.5)))) (2 : Nat)) ∧
                    (br (decide ((0 : Int) ≤ inside g.8 (0 : Int) (Int.ofNat (List.length g.5)) ∧ inside g.8 (0 : Int) (Int.ofNat (List.length g.5)) ≤ (↑(List.length g.5) : Int) ∧ (↑(List.length g.5) : Int) ≤ (↑(List.length g.5) : Int)))
                     ((Value.slice (some (Addr.mk (2 : Nat) ((0 : Nat) + Int.toNat (inside g.8 (0 : Int) (Int.ofNat (List.length g.5))) * (2 : Nat)) none)) (Int.toNat (↑(List.length g.5) : Int) - Int.toNat (inside g.8 (0 : Int) (Int.ofNat (List.length g.5)))) (2 : Nat) = Value.slice (some (Addr.mk (2 : Nat) ((0 : Nat) + Int.toNat (inside g.8 (0 : Int) (Int.ofNat (List.length g.5))) * (2 : Nat)) none)) (Int.toNat (↑(List.length g.5) : Int) - Int.toNat (inside g.8 (0 : Int) (Int.ofNat (List.length g.5)))) (2 : Nat)) ∧
                     (br (decide ((0 : Int) ≤ inside g.8 (0 : Int) (Int.ofNat (List.length g.5)) ∧ inside g.8 (0 : Int) (Int.ofNat (List.length g.5)) ≤ (↑(List.length g.5) : Int) ∧ (↑(List.length g.5) : Int) ≤ (↑(List.length g.5) : Int)))
                      ((Value.slice (some (Addr.mk (2 : Nat) ((0 : Nat) + Int.toNat (inside g.8 (0 : Int) (Int.ofNat (List.length g.5))) * (2 : Nat)) none)) (Int.toNat (↑(List.length g.5) : Int) - Int.toNat (inside g.8 (0 : Int) (Int.ofNat (List.length g.5)))) (2 : Nat) = Value.slice (some (Addr.mk (2 : Nat) ((0 : Nat) + Int.toNat (inside g.8 (0 : Int) (Int.ofNat (List.length g.5))) * (2 : Nat)) none)) (Int.toNat (↑(List.length g.5) : Int) - Int.toNat (inside g.8 (0 : Int) (Int.ofNat (List.length g.5)))) (2 : Nat)) ∧
                      (br (decide ((0 : Int) ≤ inside g.8 (0 : Int) (Int.ofNat (List.length g.5)) ∧ inside g.8 (0 : Int) (Int.ofNat (List.length g.5)) ≤ (↑(List.length g.5) : Int) ∧ (↑(List.length g.5) : Int) ≤ (↑(List.length g.5) : Int)))
                       ((Value.slice (some (Addr.mk (2 : Nat) ((0 : Nat) + Int.toNat (inside g.8 (0 : Int) (Int.ofNat (List.length g.5))) * (2 : Nat)) none)) (Int.toNat (↑(List.length g.5) : Int) - Int.toNat (inside g.8 (0 : Int) (Int.ofNat (List.length g.5)))) (2 : Nat) = Value.slice (some (Addr.mk (2 : Nat) ((0 : Nat) + Int.toNat (inside g.8 (0 : Int) (Int.ofNat (List.length g.5))) * (2 : Nat)) none)) (Int.toNat (↑(List.length g.5) : Int) - Int.toNat (inside g.8 (0 : Int) (Int.ofNat (List.length g.5)))) (2 : Nat)) ∧
                       ((((((0 : Nat) + List.length g.5 * (2 : Nat) ≤ List.length (gC enF g.5) ∧ Plain (List.take (List.length g.5 * (2 : Nat)) (List.drop (0 : Nat) (gC enF g.5)))) ∧ (True ∧ True)) ∧ (True ∧ (IsF (Row.mk (List.take (List.length g.5 * (2 : Nat)) (List.drop (0 : Nat) (gC enF g.5))) true (Ob.cells true)) (List.length g.5) ∧ (List.length g.5 ≤ (9223372036854775807 : Nat) ∧ alB (Row.mk (List.take (List.length g.5 * (2 : Nat)) (List.drop (0 : Nat) (gC enF g.5))) true (Ob.cells true)) (bs g.6) ≤ (16777216 : Nat)))))) ∧
                       (((((True ∧ (True ∧ (True ∧ (True ∧ (((0 : Nat) + List.length g.3 * (2 : Nat) ≤ List.length (gC enF g.3) ∧ Plain (List.take (List.length g.3 * (2 : Nat)) (List.drop (0 : Nat) (gC enF g.3)))) ∧ (True ∧ (True ∧ (((0 : Nat) + List.length g.4 * (2 : Nat) ≤ List.length (gC enF g.4) ∧ Plain (List.take (List.length g.4 * (2 : Nat)) (List.drop (0 : Nat) (gC enF g.4)))) ∧ (True ∧ (True ∧ (True ∧ (True ∧ True)))))))))))) ∧ ((True ∧ (True ∧ (True ∧ (True ∧ (((0 : Nat) + List.length g.5 * (2 : Nat) ≤ List.length (gC enF g.5) ∧ Plain (List.take (List.length g.5 * (2 : Nat)) (List.drop (0 : Nat) (gC enF g.5)))) ∧ (True ∧ True)))))) ∧ True)) ∧ (True ∧ (IsF (Row.mk (List.take (List.length g.3 * (2 : Nat)) (List.drop (0 : Nat) (gC enF g.3))) true (Ob.cells true)) (List.length g.3) ∧ (IsF (Row.mk (List.take (List.length g.4 * (2 : Nat)) (List.drop (0 : Nat) (gC enF g.4))) true (Ob.cells true)) (List.length g.4) ∧ (IsF (Row.mk (List.take (List.length g.5 * (2 : Nat)) (List.drop (0 : Nat) (gC enF g.5))) true (Ob.cells true)) (List.length g.5) ∧ (List.length g.3 ≤ (9223372036854775807 : Nat) ∧ (List.length g.4 ≤ (9223372036854775807 : Nat) ∧ (List.length g.5 ≤ (9223372036854775807 : Nat) ∧ (BigV1 (Row.mk (List.take (List.length g.3 * (2 : Nat)) (List.drop (0 : Nat) (gC enF g.3))) true (Ob.cells true)) ∧ (BigV1 (Row.mk (List.take (List.length g.4 * (2 : Nat)) (List.drop (0 : Nat) (gC enF g.4))) true (Ob.cells true)) ∧ BigV1 (Row.mk (List.take (List.length g.5 * (2 : Nat)) (List.drop (0 : Nat) (gC enF g.5))) true (Ob.cells true))))))))))))) ∧
                       (((((True ∧ (True ∧ (True ∧ (True ∧ (((0 : Nat) + List.length g.3 * (2 : Nat) ≤ List.length (gC enF g.3) ∧ Plain (List.take (List.length g.3 * (2 : Nat)) (List.drop (0 : Nat) (gC enF g.3)))) ∧ (True ∧ (True ∧ (((0 : Nat) + List.length g.4 * (2 : Nat) ≤ List.length (gC enF g.4) ∧ Plain (List.take (List.length g.4 * (2 : Nat)) (List.drop (0 : Nat) (gC enF g.4)))) ∧ (True ∧ (True ∧ (True ∧ (True ∧ True)))))))))))) ∧ ((True ∧ (True ∧ (True ∧ (True ∧ (((2 : Nat) ≤ (2 : Nat) ∧ Plain [Value.string (bs g.6), Value.string (bs g.7)]) ∧ (True ∧ True)))))) ∧ True)) ∧ (True ∧ (IsF (Row.mk (List.take (List.length g.3 * (2 : Nat)) (List.drop (0 : Nat) (gC enF g.3))) true (Ob.cells true)) (List.length g.3) ∧ (IsF (Row.mk (List.take (List.length g.4 * (2 : Nat)) (List.drop (0 : Nat) (gC enF g.4))) true (Ob.cells true)) (List.length g.4) ∧ (IsF (Row.mk [Value.string (bs g.6), Value.string (bs g.7)] true (Ob.cells true)) (1 : Nat) ∧ (List.length g.3 ≤ (9223372036854775807 : Nat) ∧ (List.length g.4 ≤ (9223372036854775807 : Nat) ∧ ((0 : Nat) + (1 : Nat) ≤ maxLen ∧ (BigV1 (Row.mk (List.take (List.length g.3 * (2 : Nat)) (List.drop (0 : Nat) (gC enF g.3))) true (Ob.cells true)) ∧ (BigV1 (Row.mk (List.take (List.length g.4 * (2 : Nat)) (List.drop (0 : Nat) (gC enF g.4))) true (Ob.cells true)) ∧ BigV1 (Row.mk [Value.string (bs g.6), Value.string (bs g.7)] true (Ob.cells true))))))))))))) ∧
                       ((Value.agg (Array.mk [Value.string g.1.1, Value.string g.1.2, Value.string g.1.3, Value.string g.1.4, Value.slice (some (Addr.mk (0 : Nat) (0 : Nat) none)) (List.length g.3) (2 : Nat), Value.int IntKind.i64 g.1.5, Value.int IntKind.i64 g.1.6, Value.slice (some (Addr.mk (1 : Nat) (0 : Nat) none)) (List.length g.4) (2 : Nat), Value.int IntKind.i64 g.1.7, Value.string g.1.8, Value.int IntKind.i64 g.1.9, Value.int IntKind.i64 g.1.10]) = Value.agg (Array.mk [Value.string g.1.1, Value.string g.1.2, Value.string g.1.3, Value.string g.1.4, Value.slice (some (Addr.mk (0 : Nat) (0 : Nat) none)) (List.length g.3) (2 : Nat), Value.int IntKind.i64 g.1.5, Value.int IntKind.i64 g.1.6, Value.slice (some (Addr.mk (1 : Nat) (0 : Nat) none)) (List.length g.4) (2 : Nat), Value.int IntKind.i64 g.1.7, Value.string g.1.8, Value.int IntKind.i64 g.1.9, Value.int IntKind.i64 g.1.10])) ∧
                       ((Value.agg (Array.mk [Value.string g.2.1, Value.string g.2.2, Value.string g.2.3, Value.string g.2.4, Value.slice (some (Addr.mk (2 : Nat) (0 : Nat) none)) (List.length g.5) (2 : Nat), Value.int IntKind.i64 g.2.5]) = Value.agg (Array.mk [Value.string g.2.1, Value.string g.2.2, Value.string g.2.3, Value.string g.2.4, Value.slice (some (Addr.mk (2 : Nat) (0 : Nat) none)) (List.length g.5) (2 : Nat), Value.int IntKind.i64 g.2.5])) ∧
                       ((Value.agg (Array.mk [Value.string g.1.1, Value.string g.1.2, Value.string g.1.3, Value.string g.1.4, Value.slice (some (Addr.mk (0 : Nat) (0 : Nat) none)) (List.length g.3) (2 : Nat), Value.int IntKind.i64 g.1.5, Value.int IntKind.i64 g.1.6, Value.slice (some (Addr.mk (1 : Nat) (0 : Nat) none)) (List.length g.4) (2 : Nat), Value.int IntKind.i64 g.1.7, Value.string g.1.8, Value.int IntKind.i64 g.1.9, Value.int IntKind.i64 g.1.10]) = Value.agg (Array.mk [Value.string g.1.1, Value.string g.1.2, Value.string g.1.3, Value.string g.1.4, Value.slice (some (Addr.mk (0 : Nat) (0 : Nat) none)) (List.length g.3) (2 : Nat), Value.int IntKind.i64 g.1.5, Value.int IntKind.i64 g.1.6, Value.slice (some (Addr.mk (1 : Nat) (0 : Nat) none)) (List.length g.4) (2 : Nat), Value.int IntKind.i64 g.1.7, Value.string g.1.8, Value.int IntKind.i64 g.1.9, Value.int IntKind.i64 g.1.10])) ∧
                       ((Value.agg (Array.mk [Value.string g.1.1, Value.string g.1.2, Value.string g.1.3, Value.string g.1.4, Value.slice (some (Addr.mk (0 : Nat) (0 : Nat) none)) (List.length g.3) (2 : Nat), Value.int IntKind.i64 g.1.5, Value.int IntKind.i64 g.1.6, Value.slice (some (Addr.mk (1 : Nat) (0 : Nat) none)) (List.length g.4) (2 : Nat), Value.int IntKind.i64 g.1.7, Value.string g.1.8, Value.int IntKind.i64 g.1.9, Value.int IntKind.i64 g.1.10]) = Value.agg (Array.mk [Value.string g.1.1, Value.string g.1.2, Value.string g.1.3, Value.string g.1.4, Value.slice (some (Addr.mk (0 : Nat) (0 : Nat) none)) (List.length g.3) (2 : Nat), Value.int IntKind.i64 g.1.5, Value.int IntKind.i64 g.1.6, Value.slice (some (Addr.mk (1 : Nat) (0 : Nat) none)) (List.length g.4) (2 : Nat), Value.int IntKind.i64 g.1.7, Value.string g.1.8, Value.int IntKind.i64 g.1.9, Value.int IntKind.i64 g.1.10])) ∧
                       ((Value.agg (Array.mk [Value.string g.2.1, Value.string g.2.2, Value.string g.2.3, Value.string g.2.4, Value.slice (some (Addr.mk (25 : Nat) (0 : Nat) none)) (1 : Nat) (2 : Nat), Value.int IntKind.i64 g.2.5]) = Value.agg (Array.mk [Value.string g.2.1, Value.string g.2.2, Value.string g.2.3, Value.string g.2.4, Value.slice (some (Addr.mk (25 : Nat) (0 : Nat) none)) (1 : Nat) (2 : Nat), Value.int IntKind.i64 g.2.5])) ∧
                       ((Value.agg (Array.mk [Value.string g.2.1, Value.string g.2.2, Value.string g.2.3, Value.string g.2.4, Value.slice (some (Addr.mk (25 : Nat) (0 : Nat) none)) (1 : Nat) (2 : Nat), Value.int IntKind.i64 g.2.5]) = Value.agg (Array.mk [Value.string g.2.1, Value.string g.2.2, Value.string g.2.3, Value.string g.2.4, Value.slice (some (Addr.mk (25 : Nat) (0 : Nat) none)) (1 : Nat) (2 : Nat), Value.int IntKind.i64 g.2.5])) ∧
                       (br (g.10)
                        (br (!matR (Row.mk (List.take (List.length g.3 * (2 : Nat)) (List.drop (0 : Nat) (gC enF g.3))) true (Ob.cells true)) (Row.mk (List.take (List.length g.4 * (2 : Nat)) (List.drop (0 : Nat) (gC enF g.4))) true (Ob.cells true)) (Row.mk (List.take (List.length g.5 * (2 : Nat)) (List.drop (0 : Nat) (gC enF g.5))) true (Ob.cells true)))
                         (br (!matR (Row.mk (List.take (List.length g.3 * (2 : Nat)) (List.drop (0 : Nat) (gC enF g.3))) true (Ob.cells true)) (Row.mk (List.take (List.length g.4 * (2 : Nat)) (List.drop (0 : Nat) (gC enF g.4))) true (Ob.cells true)) (Row.mk [Value.string (bs g.6), Value.string (bs g.7)] true (Ob.cells true)))
                          (((True ∧ (True ∧ True))) ∧
                          ((true = true) ∧
                          ((Eq (α := List Value) (gC enF e) (gC enF g.3)) ∧
                          ((Plain (gC enF e)) ∧
                          ((Eq (α := List Value) (gC enF r) (gC enF g.4)) ∧
                          ((Plain (gC enF r)) ∧
                          ((Eq (α := List Value) (gC enF q) (gC enF g.5)) ∧
                          ((Plain (gC enF q)) ∧
                          True))))))))
                          ((true = false) ∧
                          ((Eq (α := List Value) (gC enF e) (gC enF g.3)) ∧
                          ((Plain (gC enF e)) ∧
                          ((Eq (α := List Value) (gC enF r) (gC enF g.4)) ∧
                          ((Plain (gC enF r)) ∧
                          ((Eq (α := List Value) (gC enF q) (gC enF g.5)) ∧
                          ((Plain (gC enF q)) ∧
                          True))))))))
                         ((true = false) ∧
                         ((Eq (α := List Value) (gC enF e) (gC enF g.3)) ∧
                         ((Plain (gC enF e)) ∧
                         ((Eq (α := List Value) (gC enF r) (gC enF g.4)) ∧
                         ((Plain (gC enF r)) ∧
                         ((Eq (α := List Value) (gC enF q) (gC enF g.5)) ∧
                         ((Plain (gC enF q)) ∧
                         True))))))))
                        (br (y2)
                         (br (!y2)
                          (((True ∧ (True ∧ True))) ∧
                          ((true = true) ∧
                          ((Eq (α := List Value) (gC enF e) (gC enF g.3)) ∧
                          ((Plain (gC enF e)) ∧
                          ((Eq (α := List Value) (gC enF r) (gC enF g.4)) ∧
                          ((Plain (gC enF r)) ∧
                          ((Eq (α := List Value) (gC enF q) (gC enF g.5)) ∧
                          ((Plain (gC enF q)) ∧
                          True))))))))
                          (br (decide (alN (Row.mk (List.take (List.length g.5 * (2 : Nat)) (List.drop (0 : Nat) (gC enF g.5))) true (Ob.cells true)) (bs g.6) > (0 : Int)))
                           (((True ∧ (True ∧ True))) ∧
                           ((true = true) ∧
                           ((Eq (α := List Value) (gC enF e) (gC enF g.3)) ∧
                           ((Plain (gC enF e)) ∧
                           ((Eq (α := List Value) (gC enF r) (gC enF g.4)) ∧
                           ((Plain (gC enF r)) ∧
                           ((Eq (α := List Value) (gC enF q) (gC enF g.5)) ∧
                           ((Plain (gC enF q)) ∧
                           True))))))))
                           (br (!matR (Row.mk (List.take (List.length g.3 * (2 : Nat)) (List.drop (0 : Nat) (gC enF g.3))) true (Ob.cells true)) (Row.mk (List.take (List.length g.4 * (2 : Nat)) (List.drop (0 : Nat) (gC enF g.4))) true (Ob.cells true)) (Row.mk (List.take (List.length g.5 * (2 : Nat)) (List.drop (0 : Nat) (gC enF g.5))) true (Ob.cells true)))
                            (((True ∧ (True ∧ True))) ∧
                            ((true = true) ∧
                            ((Eq (α := List Value) (gC enF e) (gC enF g.3)) ∧
                            ((Plain (gC enF e)) ∧
                            ((Eq (α := List Value) (gC enF r) (gC enF g.4)) ∧
                            ((Plain (gC enF r)) ∧
                            ((Eq (α := List Value) (gC enF q) (gC enF g.5)) ∧
                            ((Plain (gC enF q)) ∧
                            True))))))))
                            (br (!matR (Row.mk (List.take (List.length g.3 * (2 : Nat)) (List.drop (0 : Nat) (gC enF g.3))) true (Ob.cells true)) (Row.mk (List.take (List.length g.4 * (2 : Nat)) (List.drop (0 : Nat) (gC enF g.4))) true (Ob.cells true)) (Row.mk [Value.string (bs g.6), Value.string (bs g.7)] true (Ob.cells true)))
                             (((True ∧ (True ∧ True))) ∧
                             ((true = true) ∧
                             ((Eq (α := List Value) (gC enF e) (gC enF g.3)) ∧
                             ((Plain (gC enF e)) ∧
                             ((Eq (α := List Value) (gC enF r) (gC enF g.4)) ∧
                             ((Plain (gC enF r)) ∧
                             ((Eq (α := List Value) (gC enF q) (gC enF g.5)) ∧
                             ((Plain (gC enF q)) ∧
                             True))))))))
                             ((true = false) ∧
                             ((Eq (α := List Value) (gC enF e) (gC enF g.3)) ∧
                             ((Plain (gC enF e)) ∧
                             ((Eq (α := List Value) (gC enF r) (gC enF g.4)) ∧
                             ((Plain (gC enF r)) ∧
                             ((Eq (α := List Value) (gC enF q) (gC enF g.5)) ∧
                             ((Plain (gC enF q)) ∧
                             True)))))))))))
                         (br (matR (Row.mk (List.take (List.length g.3 * (2 : Nat)) (List.drop (0 : Nat) (gC enF g.3))) true (Ob.cells true)) (Row.mk (List.take (List.length g.4 * (2 : Nat)) (List.drop (0 : Nat) (gC enF g.4))) true (Ob.cells true)) (Row.mk (List.take (List.length g.5 * (2 : Nat)) (List.drop (0 : Nat) (gC enF g.5))) true (Ob.cells true)) == matR (Row.mk (List.take (List.length g.3 * (2 : Nat)) (List.drop (0 : Nat) (gC enF g.3))) true (Ob.cells true)) (Row.mk (List.take (List.length g.4 * (2 : Nat)) (List.drop (0 : Nat) (gC enF g.4))) true (Ob.cells true)) (Row.mk [Value.string (bs g.6), Value.string (bs g.7)] true (Ob.cells true)))
                          (br (!y2)
                           (((True ∧ (True ∧ True))) ∧
                           ((true = true) ∧
                           ((Eq (α := List Value) (gC enF e) (gC enF g.3)) ∧
                           ((Plain (gC enF e)) ∧
                           ((Eq (α := List Value) (gC enF r) (gC enF g.4)) ∧
                           ((Plain (gC enF r)) ∧
                           ((Eq (α := List Value) (gC enF q) (gC enF g.5)) ∧
                           ((Plain (gC enF q)) ∧
                           True))))))))
                           (br (decide (alN (Row.mk (List.take (List.length g.5 * (2 : Nat)) (List.drop (0 : Nat) (gC enF g.5))) true (Ob.cells true)) (bs g.6) > (0 : Int)))
                            (((True ∧ (True ∧ True))) ∧
                            ((true = true) ∧
                            ((Eq (α := List Value) (gC enF e) (gC enF g.3)) ∧
                            ((Plain (gC enF e)) ∧
                            ((Eq (α := List Value) (gC enF r) (gC enF g.4)) ∧
                            ((Plain (gC enF r)) ∧
                            ((Eq (α := List Value) (gC enF q) (gC enF g.5)) ∧
                            ((Plain (gC enF q)) ∧
                            True))))))))
                            (br (!matR (Row.mk (List.take (List.length g.3 * (2 : Nat)) (List.drop (0 : Nat) (gC enF g.3))) true (Ob.cells true)) (Row.mk (List.take (List.length g.4 * (2 : Nat)) (List.drop (0 : Nat) (gC enF g.4))) true (Ob.cells true)) (Row.mk (List.take (List.length g.5 * (2 : Nat)) (List.drop (0 : Nat) (gC enF g.5))) true (Ob.cells true)))
                             (((True ∧ (True ∧ True))) ∧
                             ((true = true) ∧
                             ((Eq (α := List Value) (gC enF e) (gC enF g.3)) ∧
                             ((Plain (gC enF e)) ∧
                             ((Eq (α := List Value) (gC enF r) (gC enF g.4)) ∧
                             ((Plain (gC enF r)) ∧
                             ((Eq (α := List Value) (gC enF q) (gC enF g.5)) ∧
                             ((Plain (gC enF q)) ∧
                             True))))))))
                             (br (!matR (Row.mk (List.take (List.length g.3 * (2 : Nat)) (List.drop (0 : Nat) (gC enF g.3))) true (Ob.cells true)) (Row.mk (List.take (List.length g.4 * (2 : Nat)) (List.drop (0 : Nat) (gC enF g.4))) true (Ob.cells true)) (Row.mk [Value.string (bs g.6), Value.string (bs g.7)] true (Ob.cells true)))
                              (((True ∧ (True ∧ True))) ∧
                              ((true = true) ∧
                              ((Eq (α := List Value) (gC enF e) (gC enF g.3)) ∧
                              ((Plain (gC enF e)) ∧
                              ((Eq (α := List Value) (gC enF r) (gC enF g.4)) ∧
                              ((Plain (gC enF r)) ∧
                              ((Eq (α := List Value) (gC enF q) (gC enF g.5)) ∧
                              ((Plain (gC enF q)) ∧
                              True))))))))
                              ((true = false) ∧
                              ((Eq (α := List Value) (gC enF e) (gC enF g.3)) ∧
                              ((Plain (gC enF e)) ∧
                              ((Eq (α := List Value) (gC enF r) (gC enF g.4)) ∧
                              ((Plain (gC enF r)) ∧
                              ((Eq (α := List Value) (gC enF q) (gC enF g.5)) ∧
                              ((Plain (gC enF q)) ∧
                              True)))))))))))
                          ((true = false) ∧
                          ((Eq (α := List Value) (gC enF e) (gC enF g.3)) ∧
                          ((Plain (gC enF e)) ∧
                          ((Eq (α := List Value) (gC enF r) (gC enF g.4)) ∧
                          ((Plain (gC enF r)) ∧
                          ((Eq (α := List Value) (gC enF q) (gC enF g.5)) ∧
                          ((Plain (gC enF q)) ∧
                          True))))))))))))))))))))
                       False))
                      False))
                     False))
                    False))))))
                   False)))
                 False)
                False)
               False)
              False))
            False)
           False)
          False)
         False)))))))))))))))))))))))))))))))))))))))))))))))))))
    (((True ∧ (True ∧ True))) ∧
    ((true = true) ∧
    ((Eq (α := List Value) (gC enF e) (gC enF e)) ∧
    ((Plain (gC enF e)) ∧
    ((Eq (α := List Value) (gC enF r) (gC enF r)) ∧
    ((Plain (gC enF r)) ∧
    ((Eq (α := List Value) (gC enF q) (gC enF q)) ∧
    ((Plain (gC enF q)) ∧
    True))))))))))
   (((True ∧ (True ∧ True))) ∧
   ((true = true) ∧
   ((Eq (α := List Value) (gC enF e) (gC enF e)) ∧
   ((Plain (gC enF e)) ∧
   ((Eq (α := List Value) (gC enF r) (gC enF r)) ∧
   ((Plain (gC enF r)) ∧
   ((Eq (α := List Value) (gC enF q) (gC enF q)) ∧
   ((Plain (gC enF q)) ∧
   True)))))))))) := by kernel_rfl
theorem cVx_ok : ∀ f a rows p v news, cVx f a rows = some (p, v, news) → p → Con Try.prog f a rows v (rows ++ news) := by
  intro f a rows p v news h hp
  unfold cVx at h
  split at h
  · simp only [Option.some.injEq, Prod.mk.injEq] at h
    obtain ⟨rfl, rfl, rfl⟩ := h
    obtain ⟨h1, h2, h3, h4⟩ := hp
    exact within_con _ _ _ h1 h2 h4 h3
  · exact cVr_ok _ _ _ _ _ _ h hp
theorem Vx_piece : PieceOk EVx 3 (6, pVx, specVx) := by
  refine piece_loop mixed (calls_envC cVx_ok) (lok_envC _ _ _) lm_none (n := 60) (by kernel_rfl) (fun _ : GVx => (0 : Nat)) (fun g i => i ≤ g.ns.length) (fun g i => g.ns.length - i) (sl := slVx) (rl := fun g _ => rlVx g) (fun g hg => Nat.zero_le _) (fun g i hg hi => ?_)
  refine (Vx_round g i _ _).mpr ?_
  simp only [ofNat_eq, toNat_cast, Nat.zero_add, Nat.add_zero, Nat.mul_one, List.drop_zero, bCells_len, bCells_drop, bCells_take, bCells_app, bCells_one, bCells_plain, List.length_replicate, List.length_append, List.length_take, List.length_drop, List.take_length, and_true, true_and, and_self, decide_true, List.length_nil, List.length_cons, Nat.sub_zero, dB_mk, dB_ro, List.take_zero, fPl, sPl, sLen, fLen]
  have w : i < g.ns.length → IntKind.i64.wrap ((i : Int) + 1) = ((i + 1 : Nat) : Int) := fun h => i64_succ (by have hg : g.ns.length ≤ 16777216 := hg; omega)
  have hstep : (h : i < g.ns.length) → inN g (i + 1) = (inN g i || decide (g.ns[i] = g.nm)) := fun h => by
    unfold inN
    rw [Bool.eq_iff_iff, Bool.or_eq_true, decide_eq_true_iff, decide_eq_true_iff, decide_eq_true_iff, List.take_succ_eq_append_getElem h, List.mem_append, List.mem_singleton]
    exact or_congr Iff.rfl eq_comm
  refine br_if (fun h => ?_) (fun h => ⟨_, rfl, by unfold inN; rw [List.take_of_length_le (by omega)]⟩)
  have hi : i < g.ns.length := by omega
  obtain ⟨c1, c2⟩ := sGet g.ns i hi
  rw [w hi]
  refine br_intro (fun k => ⟨i + 1, by omega, by omega, by rw [hstep hi, k]; rfl, rfl⟩) (fun k => br_dec (by omega) ⟨by rw [c2]; exact c1, i + 1, by omega, by omega, ?_, rfl⟩)
  rw [hstep hi, k, c2, strEq_bs, Bool.false_or]
theorem one_ins (e q1 q2 : List Fl) (f : Fl) (x : List UInt8) (h : f.n ≠ x) : mOne e (q1 ++ [f] ++ q2) x = mOne e (q1 ++ q2) x := by
  have a1 : allN x [f] = 0 := by unfold allN; simp [h]
  have a2 : tlS x [f] = [] := tl_none x [f] a1
  unfold mOne
  rw [allN_app, allN_app, allN_app, a1, all_tl x (q1 ++ [f] ++ q2), all_tl x (q1 ++ q2), tl_app, tl_app, tl_app, a2, Nat.add_zero, List.append_nil]
theorem mat_out (e r q1 q2 : List Fl) (f : Fl) (ns : List (List UInt8)) (hs : starL r = some ns) (h : f.n ∉ ns) : matL e r (q1 ++ q2) = matL e r (q1 ++ [f] ++ q2) := by
  unfold matL; rw [hs]
  simp only
  rw [Bool.eq_iff_iff, List.all_eq_true, List.all_eq_true]
  constructor
  · intro k x hx; rw [one_ins e q1 q2 f x (fun e2 => h (e2 ▸ hx))]; exact k x hx
  · intro k x hx; rw [← one_ins e q1 q2 f x (fun e2 => h (e2 ▸ hx))]; exact k x hx
theorem mat_in (e r q1 q2 : List Fl) (f : Fl) (ns : List (List UInt8)) (hs : starL r = some ns) (h : f.n ∈ ns) (h0 : allN f.n (q1 ++ q2) = 0) (ht : matL e r (q1 ++ q2) = true) : matL e r (q1 ++ [f] ++ q2) = false := by
  unfold matL at ht ⊢; rw [hs] at ht ⊢
  simp only at ht ⊢
  have k := List.all_eq_true.1 ht f.n h
  rw [List.all_eq_false]
  refine ⟨f.n, h, ?_⟩
  have a1 : 0 < allN f.n [f] := by unfold allN; simp
  have a2 : 0 < allN f.n (q1 ++ [f] ++ q2) := by rw [allN_app, allN_app]; omega
  unfold mOne at k ⊢
  rw [Bool.and_eq_true] at k
  have k1 : allN f.n e = 0 := by
    have := k.1
    rw [h0] at this
    simpa using this
  rw [k1, decide_eq_true a2]
  simp
theorem vx_law (em es ea ep : ByteArray) (e : List Fl) (ek st : Int) (r : List Fl) (k2 : Int) (body : ByteArray) (asked came : Int) (qm qs qa qp : ByteArray) (q : List Fl) (qk : Int) (nm vl : ByteArray) (at_ : Int)
    (z1 : em.size ≤ 1048576) (z2 : es.size ≤ 1048576) (z3 : ea.size ≤ 1048576) (z4 : ep.size ≤ 1048576) (he : e.length ≤ 1048576) (he2 : ∀ f ∈ e, f.n.length ≤ 1048576 ∧ f.v.length ≤ 1048576) (i1 : I64 ek) (i2 : I64 st) (hr : r.length ≤ 1048576) (hr2 : ∀ f ∈ r, f.n.length ≤ 1048576 ∧ f.v.length ≤ 1048576) (i3 : I64 k2) (z5 : body.size ≤ 1048576) (i4 : I64 asked) (i5 : I64 came)
    (z6 : qm.size ≤ 1048576) (z7 : qs.size ≤ 1048576) (z8 : qa.size ≤ 1048576) (z9 : qp.size ≤ 1048576) (hq : q.length ≤ 1048576) (hq2 : ∀ f ∈ q, f.n.length ≤ 1048576 ∧ f.v.length ≤ 1048576) (i6 : I64 qk) (z10 : nm.size ≤ 1048576) (z11 : vl.size ≤ 1048576) (i7 : I64 at_) :
    Con Try.prog 6 [.agg ⟨enCells ⟨em, es, ea, ep, ek, st, k2, body, asked, came⟩ 0 e.length 1 r.length⟩, .agg ⟨rqCells ⟨qm, qs, qa, qp, qk⟩ 2 q.length⟩, .string nm, .string vl, .int .i64 at_] [gRo enF e, gRo enF r, gRo enF q] (.bool true) [gRo enF e, gRo enF r, gRo enF q] := by
  obtain ⟨nm, rfl⟩ : ∃ l, nm = bs l := ⟨L nm, rfl⟩
  obtain ⟨vl, rfl⟩ : ∃ l, vl = bs l := ⟨L vl, rfl⟩
  refine con_vc (E := EVx) mixed (calls_envC cVx_ok) (lok_envC _ _ _) (M := mVx) (lm_one Vx_piece) (Vx_vc ⟨em, es, ea, ep, ek, st, k2, body, asked, came⟩ ⟨qm, qs, qa, qp, qk⟩ e r q nm vl at_) ?_
  have hm : maxLen = 9223372036854775807 := by unfold maxLen; rfl
  have e4 : (⟨#[118, 97, 114, 121]⟩ : ByteArray) = bs sVary := rfl
  have m1 : ∀ (a b c : List Fl) x y z o p t, matR ⟨gC enF a, x, o⟩ ⟨gC enF b, y, p⟩ ⟨gC enF c, z, t⟩ = matL a b c := fun a b c x y z o p t => by unfold matR; simp only; rw [decF_gC, decF_gC, decF_gC]
  have m2 : ∀ (l : List Fl) b o, lgR ⟨gC enF l, b, o⟩ = lgB l := fun l b o => by unfold lgR; simp only; rw [decF_gC]
  have m3 : ∀ (l : List Fl) b o, (∀ f ∈ l, f.n.length ≤ 1048576 ∧ f.v.length ≤ 1048576) → ShR ⟨gC enF l, b, o⟩ := fun l b o h => by unfold ShR; simp only; rw [decF_gC]; exact h
  have m4 : ∀ (l : List Fl) b o, lgB l = true → BigV1 ⟨gC enF l, b, o⟩ := fun l b o h => by unfold BigV1; simp only; rw [decF_gC]; exact big_lg l (by unfold lgB at h; simpa using h)
  have m5 : ∀ (l : List Fl) b o, vaB ⟨gC enF l, b, o⟩ = (allL l sVary).length := fun l b o => by unfold vaB; simp only; rw [decF_gC]
  have m6 : ∀ (l : List Fl) b o, alB ⟨gC enF l, b, o⟩ (bs sVary) = (allL l sVary).length := fun l b o => by unfold alB; simp only; rw [decF_gC, L_bs]
  have m7 : ∀ (l : List Fl) b o, alN ⟨gC enF l, b, o⟩ (bs sVary) = (allN sVary l : Nat) := fun l b o => by unfold alN; simp only; rw [decF_gC, L_bs]
  have m8 : ∀ (l : List Fl) b o, stB ⟨gC enF l, b, o⟩ = (starL l).isNone := fun l b o => by unfold stB; simp only; rw [decF_gC]
  have m9 : ∀ (l : List Fl) b o, Plain (stC ⟨gC enF l, b, o⟩) := fun l b o => by unfold stC; exact sPl _
  have sz : ∀ s : ByteArray, s.data.toList.length = s.size := fun s => by rw [Array.length_toList]; rfl
  simp only [ofNat_eq, toNat_cast, Nat.zero_add, Nat.add_zero, Nat.mul_one, List.drop_zero, bCells_len, bCells_drop, bCells_take, bCells_app, bCells_one, bCells_plain, List.length_replicate, List.length_append, List.length_take, List.length_drop, List.take_length, and_true, true_and, and_self, decide_true, List.length_nil, List.length_cons, Nat.sub_zero, dB_mk, dB_ro, List.take_zero, fPl, sPl, sLen, fLen, fTake, bs_dd, m2, sz]
  refine ⟨⟨by omega, isF_mk _ _ rfl, by omega, m3 _ _ _ he2⟩, br_intro (fun l1 => ⟨⟨by omega, isF_mk _ _ rfl, by omega, m3 _ _ _ hr2⟩, br_intro (fun l2 => br_intro (fun _ => trivial) (fun _ => ⟨⟨by omega, isF_mk _ _ rfl, by omega, m3 _ _ _ hq2⟩, br_intro (fun _ => trivial) (fun l3 => ?_)⟩)) (fun _ => trivial)⟩) (fun _ => trivial)⟩
  have l3 : lgB q = true := by simpa using l3
  have hv := allL_le r sVary
  have l2' : lgN r ≤ 2000 := by unfold lgB at l2; simpa using l2
  have l3' : lgN q ≤ 2000 := by unfold lgB at l3; simpa using l3
  have hsl := (split_len (allL r sVary)).2
  have hst : (stL r).length ≤ 16777216 := by
    unfold stL; rw [star_el]
    split
    · unfold starE; split
      · simp only [Option.getD_some, List.length_map]; unfold elSp; omega
      · simp
    · simp
  have r1 : ∀ b o, stN ⟨gC enF r, b, o⟩ = (stL r).length := fun b o => by unfold stN; simp only; rw [decF_gC]
  have r2 : ∀ b o, stC ⟨gC enF r, b, o⟩ = gC enS (stL r) := fun b o => by unfold stC; simp only; rw [decF_gC]
  simp only [m5, m8, r1, r2]
  refine br_if (fun _ => trivial) (fun n1 => br_if (fun _ => trivial) (fun n2 => ?_))
  refine ⟨⟨by omega, sPl _, isF_mk _ _ rfl, by omega, by omega⟩, ⟨⟨em, es, ea, ep, ek, st, k2, body, asked, came⟩, ⟨qm, qs, qa, qp, qk⟩, e, r, q, nm, vl, at_, stL r, (starL r).isNone⟩, hst, rfl, by unfold inN; simp, rfl, rfl, rfl, rfl, rfl, rfl, rfl, rfl, rfl, rfl, rfl, rfl, rfl, rfl, rfl, rfl, rfl, rfl, rfl, rfl, rfl, rfl, rfl, rfl, rfl, rfl, fun b2 hb2 => ?_⟩
  simp only at hb2 ⊢
  have hin := inside_in at_ 0 (q.length : Int) (by omega)
  obtain ⟨k, hk⟩ : ∃ k : Nat, inside at_ 0 (q.length : Int) = (k : Int) := ⟨(inside at_ 0 (q.length : Int)).toNat, by omega⟩
  rw [hk] at hin
  have hkq : k ≤ q.length := by omega
  have o1 : ∀ n, allOne ((gC enF q).take (n * 2)) = true := fun n => by rw [gC_take enF_k]; exact fOne _
  have o2 : ∀ n, allOne ((gC enF q).drop (n * 2)) = true := fun n => by rw [gC_drop enF_k]; exact fOne _
  have t1 : ∀ n, (gC enF q).take (n * 2) = gC enF (q.take n) := fun n => gC_take enF_k q n
  have t2 : ∀ n, (gC enF q).drop (n * 2) = gC enF (q.drop n) := fun n => gC_drop enF_k q n
  refine ⟨⟨i7, by omega, by omega, by omega⟩, ?_⟩
  obtain ⟨f, hf⟩ : ∃ f : Fl, f = ⟨nm, vl⟩ := ⟨_, rfl⟩
  have u0 : [Value.string (bs nm), Value.string (bs vl)] = gC enF [f] := by rw [hf]; rfl
  have u1 : (gC enF (q.take k)).take (k * 2) = gC enF (q.take k) := List.take_of_length_le (by rw [fLen, List.length_take]; omega)
  have u2 : (gC enF (q.take k ++ [f])).take ((k + 1) * 2) = gC enF (q.take k ++ [f]) := List.take_of_length_le (by rw [fLen, List.length_append, List.length_take, List.length_singleton]; omega)
  have u3 : (gC enF (q.drop k)).take ((q.length - k) * 2) = gC enF (q.drop k) := List.take_of_length_le (by rw [fLen, List.length_drop]; omega)
  obtain ⟨P, hP⟩ : ∃ P, P = q.take k ++ [f] ++ q.drop k := ⟨_, rfl⟩
  have hPl : P.length = k + 1 + (q.length - k) := by rw [hP]; simp; omega
  have u4 : (gC enF P).take ((k + 1 + (q.length - k)) * 2) = gC enF P := List.take_of_length_le (by rw [fLen, hPl]; omega)
  simp only [hk, toNat_cast, t1, t2, fOne, List.nil_append, u0, u1, u2, u3, gC_app, ← hP, u4, m1]
  simp (disch := omega) only [brT]
  have hfn : f.n = nm := by rw [hf]
  have hlf : fOn f ≤ 200 := by unfold fOn; rw [hf]; simp only; omega
  have hql : lgN (q.take k) + lgN (q.drop k) = lgN q := by rw [← lgN_app, List.take_append_drop]
  have hlg1 : lgN [f] ≤ 200 := by simp only [lgN]; omega
  have hPg : lgN P ≤ 5000 := by rw [hP, lgN_app, lgN_app]; omega
  have bP : BigV1 ⟨gC enF P, true, .cells true⟩ := by
    unfold BigV1; simp only; rw [decF_gC]; intro x; have := allL_le P x; omega
  have a1 : ∀ (l : List Fl) b o, alB ⟨gC enF l, b, o⟩ (bs nm) = (allL l nm).length := fun l b o => by unfold alB; simp only; rw [decF_gC, L_bs]
  have a2 : ∀ (l : List Fl) b o, alN ⟨gC enF l, b, o⟩ (bs nm) = (allN nm l : Nat) := fun l b o => by unfold alN; simp only; rw [decF_gC, L_bs]
  have hal := allL_le q nm
  simp only [a1, a2]
  have hqq : q.take k ++ q.drop k = q := List.take_append_drop k q
  refine br_b rfl (br_dec (Or.inr rfl) (br_b rfl (br_dec (by omega) ⟨⟨by omega, isF_mk _ _ rfl, by omega, by omega⟩, ⟨⟨⟨by omega, by omega⟩, by omega⟩, isF_mk _ _ rfl, isF_mk _ _ rfl, isF_mk _ _ rfl, by omega, by omega, by omega, m4 _ _ _ l1, m4 _ _ _ l2, m4 _ _ _ l3⟩, ⟨⟨⟨by omega, by omega⟩, by omega, fPl _⟩, isF_mk _ _ rfl, isF_mk _ _ rfl, isF_mk _ _ hPl.symm, by omega, by omega, by omega, m4 _ _ _ l1, m4 _ _ _ l2, bP⟩, ?_⟩)))
  cases hs : starL r with
  | none =>
    have z1 : matL e r q = false := by unfold matL; rw [hs]
    have z2 : matL e r P = false := by unfold matL; rw [hs]
    rw [z1, z2]
    exact br_b rfl (br_b rfl (br_b rfl ⟨trivial, trivial, trivial⟩))
  | some ns =>
    have hs2 : stL r = ns := by unfold stL; rw [hs]; rfl
    rw [hs2] at hb2
    refine br_nb rfl ?_
    by_cases hin2 : nm ∈ ns
    · have hb : b2 = true := by rw [hb2]; exact decide_eq_true hin2
      rw [hb]
      refine br_b rfl (br_nb rfl (br_if (fun _ => ⟨trivial, trivial, trivial⟩) (fun h0 => br_intro (fun _ => ⟨trivial, trivial, trivial⟩) (fun hm1 => ?_))))
      have hz : allN f.n (q.take k ++ q.drop k) = 0 := by rw [hqq, hfn]; omega
      have ht : matL e r (q.take k ++ q.drop k) = true := by rw [hqq]; simpa using hm1
      have := mat_in e r (q.take k) (q.drop k) f ns hs (by rw [hfn]; exact hin2) hz ht
      rw [← hP] at this
      rw [this]
      exact br_b rfl ⟨trivial, trivial, trivial⟩
    · have hb : b2 = false := by rw [hb2]; exact decide_eq_false hin2
      rw [hb]
      have := mat_out e r (q.take k) (q.drop k) f ns hs (by rw [hfn]; exact hin2)
      rw [← hP, hqq] at this
      refine br_nb rfl (br_b (by rw [this]; simp) (br_b rfl ⟨trivial, trivial, trivial⟩))
end Go.Proofs.Ythmjapgfnpjgnaa.tk
