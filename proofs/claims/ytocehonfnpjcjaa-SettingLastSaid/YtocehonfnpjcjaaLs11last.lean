/- The law of settings that are told more than once. -/
import Derived.Test.YtocehonfnpjcjaaSz9
import Derived.Test.YtocehonfnpjcjaaRows
import Derived.Test.YtocehonfnpjcjaaLs11tells
import Derived.Test.YtocehonfnpjcjaaLints
set_option linter.unusedSimpArgs false
set_option linter.unusedVariables false
namespace Go.Proofs.Ytocehonfnpjcjaa.s11
open Go Go.Ev Go.Sy Go.RowKit Go.Proofs.Ytocehonfnpjcjaa.gl Go.Proofs.Ytocehonfnpjcjaa.ic
def inside (n lo hi : Int) : Int := within n lo hi
noncomputable def cL (K : Int) : FuncId → List Value → List Row → Option (Prop × Value × List Row)
  | 18, [.int .i64 n, .int .i64 lo, .int .i64 hi], [] => bif hi == 2 then some (within n 0 2 = K ∧ lo = 0 ∧ hi = 2 ∧ I64 n, .int .i64 K, []) else some (I64 n ∧ lo = 0 ∧ hi = 2147483647, .int .i64 (inside n lo hi), [])
  | 9, [.agg ⟨[.int .i64 a, .int .i64 b, .int .i64 c, .int .i64 d, .int .i64 e]⟩, .slice (some ⟨0, 0, none⟩) n 2], [r0] => some (IsSe r0 n ∧ n ≤ maxLen, .tuple #[stV (appI a b c d e r0), .int .i64 (errI r0)], [])
  | 11, [.agg ⟨[.int .i64 i, .int .i64 v]⟩], [] => some (True, .int .i64 (vlI i v), [])
  | 3, [], [] => some (True, .bool true, [])
  | _, _, _ => none
def kL (f : FuncId) : Bool := Nat.beq f 9 || Nat.beq f 11 || Nat.beq f 18 || Nat.beq f 3
noncomputable abbrev EL (K : Int) : Env := envC Try.prog (cL K) kL
structure GL where
  id : Int
  k : Int
  vs : List Int
  os : List Se
structure SL where
  i : Nat
  w : Int
  l : List Se
def pL : List Nat := [0, 1, 0, 1, 1, 1, 1]
def slL (g : GL) (s : SL) : List (Nat × Value) := [(0, .int .i64 g.id), (1, .slice (some ⟨0, 0, none⟩) g.vs.length 1), (2, .slice (some ⟨1, 0, none⟩) g.os.length 2), (7, .int .i64 g.k), (8, .slice (some ⟨2, 0, none⟩) s.l.length 2), (9, .int .i64 s.w), (10, .int .i64 (s.i : Nat))]
def rlL (g : GL) (s : SL) : List (Nat × Row) := [(0, iRo .i64 g.vs), (1, gRo seC g.os), (2, gOwn seC s.l)]
def fld (k : Int) (y : St) : Int := if k = 1 then y.a else if k = 3 then y.b else y.e
def first : St := ⟨4096, 2147483647, 65535, 16384, 2147483647⟩
/-- What the settings told so far come to. -/
def okL (k : Int) (w : Int) (l : List Se) : Prop := errL l = 0 ∧ (w < 0 → l = []) ∧ (0 ≤ w → fld k (finL first l) = w)
def wsL (g : GL) : List (Gate SL) := [⟨.exit 0, fun s => okL g.k s.w s.l ∧ s.l.length ≤ 100, fun s => [(0, .int .i64 g.id), (8, .slice (some ⟨2, 0, none⟩) s.l.length 2), (9, .int .i64 s.w)], fun s => [(0, iRo .i64 g.vs), (1, gRo seC g.os), (2, gOwn seC s.l)], 3⟩]
def specL : Sy.Spec := specOf 2 3 107 (fun g : GL => (g.k = 1 ∨ g.k = 3 ∨ g.k = 6) ∧ g.vs.length ≤ maxLen ∧ ∀ x ∈ g.vs, I64 x) (fun g => slL g ⟨0, -1, []⟩) (fun g => rlL g ⟨0, -1, []⟩) wsL
def mL := mOf [(8, pL, specL)]
theorem within_vc (n lo hi v : Int) : mcall E0 noM 60 18 [.int .i64 n, .int .i64 lo, .int .i64 hi] ⟨mkR (nums 0 []), 0⟩ (retIs 0 (.int .i64 v) []) =
  (br (IntKind.wrap IntKind.i64 (IntKind.wrap IntKind.i64 (hi - lo) + (1 : Int)) != (0 : Int))
   (br (decide (Int.tmod n (IntKind.wrap IntKind.i64 (IntKind.wrap IntKind.i64 (hi - lo) + (1 : Int))) < (0 : Int)))
    ((v = IntKind.wrap IntKind.i64 (lo + IntKind.wrap IntKind.i64 (IntKind.wrap IntKind.i64 (IntKind.wrap IntKind.i64 (Int.tmod n (IntKind.wrap IntKind.i64 (IntKind.wrap IntKind.i64 (hi - lo) + (1 : Int))) + hi) - lo) + (1 : Int)))) ∧
    True)
    ((v = IntKind.wrap IntKind.i64 (lo + Int.tmod n (IntKind.wrap IntKind.i64 (IntKind.wrap IntKind.i64 (hi - lo) + (1 : Int))))) ∧
    True))
   False) := by kernel_rfl
theorem l_round (K : Int) (g : GL) (i : SL) (Inv : SL → Prop) (m : SL → Nat) : mev (EL K) noM 60 8 (0 :: pL) false (codeOf Try.prog 8 (0 :: pL)) ⟨mkOv (slL g i), 107, []⟩ none ⟨mkR (rlL g i), 3⟩ (roundK 2 3 107 Inv m (slL g) (rlL g) (wsL g) i) =
  (br (decide ((↑i.1 : Int) < Int.ofNat (List.length g.3)))
   (br (decide ((↑i.1 : Int) < (20 : Int)))
    (br (decide ((0 : Int) ≤ (↑i.1 : Int) ∧ (↑i.1 : Int) < (↑(List.length g.3) : Int)))
     ((Eq (α := Option Value) ((iCells IntKind.i64 g.3)[(0 : Nat) + Int.toNat (↑i.1 : Int) * (1 : Nat)]?) (some (Value.int IntKind.i64 (cellI (iCells IntKind.i64 g.3) ((0 : Nat) + Int.toNat (↑i.1 : Int) * (1 : Nat)))))) ∧
     ((((True ∧ (True ∧ (True ∧ True))) ∧ (True ∧ (I64 (cellI (iCells IntKind.i64 g.3) ((0 : Nat) + Int.toNat (↑i.1 : Int) * (1 : Nat))) ∧ ((0 : Int) = (0 : Int) ∧ (2147483647 : Int) = (2147483647 : Int)))))) ∧
     (br (decide (List.length i.3 + (1 : Nat) ≤ (16777216 : Nat)))
      (br (decide ((0 : Nat) + List.length i.3 * (2 : Nat) ≤ List.length (gC seC i.3)))
       (br (decide ((↑i.1 : Int) < Int.ofNat (List.length g.4)))
        (br (decide ((0 : Int) ≤ (↑i.1 : Int) ∧ (↑i.1 : Int) < (↑(List.length g.4) : Int)))
         ((Eq (α := Option Value) ((gC seC g.4)[(0 : Nat) + Int.toNat (↑i.1 : Int) * (2 : Nat) + (0 : Nat)]?) (some (Value.int IntKind.i64 (cellI (gC seC g.4) ((0 : Nat) + Int.toNat (↑i.1 : Int) * (2 : Nat) + (0 : Nat)))))) ∧
         (br (cellI (gC seC g.4) ((0 : Nat) + Int.toNat (↑i.1 : Int) * (2 : Nat) + (0 : Nat)) != g.2)
          (br (decide ((0 : Int) ≤ (↑i.1 : Int) ∧ (↑i.1 : Int) < (↑(List.length g.4) : Int)))
           ((Eq (α := Option Value) ((gC seC g.4)[(0 : Nat) + Int.toNat (↑i.1 : Int) * (2 : Nat)]?) (some (Value.int IntKind.i64 (cellI (gC seC g.4) ((0 : Nat) + Int.toNat (↑i.1 : Int) * (2 : Nat)))))) ∧
           ((Eq (α := Option Value) ((gC seC g.4)[(0 : Nat) + Int.toNat (↑i.1 : Int) * (2 : Nat) + (1 : Nat)]?) (some (Value.int IntKind.i64 (cellI (gC seC g.4) ((0 : Nat) + Int.toNat (↑i.1 : Int) * (2 : Nat) + (1 : Nat)))))) ∧
           (((((True ∧ (True ∧ True)) ∧ True) ∧ (True ∧ True))) ∧
           (br (vlI (cellI (gC seC g.4) ((0 : Nat) + Int.toNat (↑i.1 : Int) * (2 : Nat))) (cellI (gC seC g.4) ((0 : Nat) + Int.toNat (↑i.1 : Int) * (2 : Nat) + (1 : Nat))) == (0 : Int))
            (br (decide ((0 : Int) ≤ (↑i.1 : Int) ∧ (↑i.1 : Int) < (↑(List.length g.4) : Int)))
             ((Eq (α := Option Value) ((gC seC g.4)[(0 : Nat) + Int.toNat (↑i.1 : Int) * (2 : Nat)]?) (some (Value.int IntKind.i64 (cellI (gC seC g.4) ((0 : Nat) + Int.toNat (↑i.1 : Int) * (2 : Nat)))))) ∧
             ((Eq (α := Option Value) ((gC seC g.4)[(0 : Nat) + Int.toNat (↑i.1 : Int) * (2 : Nat) + (1 : Nat)]?) (some (Value.int IntKind.i64 (cellI (gC seC g.4) ((0 : Nat) + Int.toNat (↑i.1 : Int) * (2 : Nat) + (1 : Nat)))))) ∧
             (br (decide (List.length i.3 + (1 : Nat) + (1 : Nat) ≤ (16777216 : Nat)))
              (br (decide ((0 : Nat) + (List.length i.3 + (1 : Nat)) * (2 : Nat) ≤ List.length (List.take (List.length i.3 * (2 : Nat)) (List.drop (0 : Nat) (gC seC i.3)) ++ [Value.int IntKind.i64 g.2, Value.int IntKind.i64 (inside (cellI (iCells IntKind.i64 g.3) ((0 : Nat) + Int.toNat (↑i.1 : Int) * (1 : Nat))) (0 : Int) (2147483647 : Int))])))
               (∃ j : SL, ((Inv j) ∧
               ((m j < m i) ∧
               ((g.1 = g.1) ∧
               (((0 : Nat) = (0 : Nat)) ∧
               ((List.length g.3 = List.length g.3) ∧
               (((0 : Nat) = (0 : Nat)) ∧
               ((List.length g.4 = List.length g.4) ∧
               ((g.2 = g.2) ∧
               (((0 : Nat) = (0 : Nat)) ∧
               ((List.length j.3 = List.length i.3 + (1 : Nat) + (1 : Nat)) ∧
               ((j.2 = inside (cellI (iCells IntKind.i64 g.3) ((0 : Nat) + Int.toNat (↑i.1 : Int) * (1 : Nat))) (0 : Int) (2147483647 : Int)) ∧
               (((↑j.1 : Int) = IntKind.wrap IntKind.i64 ((↑i.1 : Int) + (1 : Int))) ∧
               ((Eq (α := List Value) (iCells IntKind.i64 g.3) (iCells IntKind.i64 g.3)) ∧
               ((Plain (iCells IntKind.i64 g.3)) ∧
               ((Eq (α := List Value) (gC seC g.4) (gC seC g.4)) ∧
               ((Plain (gC seC g.4)) ∧
               ((Eq (α := List Value) (gC seC j.3) (List.take ((List.length i.3 + (1 : Nat)) * (2 : Nat)) (List.drop (0 : Nat) (List.take (List.length i.3 * (2 : Nat)) (List.drop (0 : Nat) (gC seC i.3)) ++ [Value.int IntKind.i64 g.2, Value.int IntKind.i64 (inside (cellI (iCells IntKind.i64 g.3) ((0 : Nat) + Int.toNat (↑i.1 : Int) * (1 : Nat))) (0 : Int) (2147483647 : Int))])) ++ [Value.int IntKind.i64 (cellI (gC seC g.4) ((0 : Nat) + Int.toNat (↑i.1 : Int) * (2 : Nat))), Value.int IntKind.i64 (cellI (gC seC g.4) ((0 : Nat) + Int.toNat (↑i.1 : Int) * (2 : Nat) + (1 : Nat)))])) ∧
               ((Plain (gC seC j.3)) ∧
               True)))))))))))))))))))
               False)
              False)))
             False)
            (∃ j : SL, ((Inv j) ∧
            ((m j < m i) ∧
            ((g.1 = g.1) ∧
            (((0 : Nat) = (0 : Nat)) ∧
            ((List.length g.3 = List.length g.3) ∧
            (((0 : Nat) = (0 : Nat)) ∧
            ((List.length g.4 = List.length g.4) ∧
            ((g.2 = g.2) ∧
            (((0 : Nat) = (0 : Nat)) ∧
            ((List.length j.3 = List.length i.3 + (1 : Nat)) ∧
            ((j.2 = inside (cellI (iCells IntKind.i64 g.3) ((0 : Nat) + Int.toNat (↑i.1 : Int) * (1 : Nat))) (0 : Int) (2147483647 : Int)) ∧
            (((↑j.1 : Int) = IntKind.wrap IntKind.i64 ((↑i.1 : Int) + (1 : Int))) ∧
            ((Eq (α := List Value) (iCells IntKind.i64 g.3) (iCells IntKind.i64 g.3)) ∧
            ((Plain (iCells IntKind.i64 g.3)) ∧
            ((Eq (α := List Value) (gC seC g.4) (gC seC g.4)) ∧
            ((Plain (gC seC g.4)) ∧
            ((Eq (α := List Value) (gC seC j.3) (List.take (List.length i.3 * (2 : Nat)) (List.drop (0 : Nat) (gC seC i.3)) ++ [Value.int IntKind.i64 g.2, Value.int IntKind.i64 (inside (cellI (iCells IntKind.i64 g.3) ((0 : Nat) + Int.toNat (↑i.1 : Int) * (1 : Nat))) (0 : Int) (2147483647 : Int))])) ∧
            ((Plain (gC seC j.3)) ∧
            True)))))))))))))))))))))))
           False)
          (∃ j : SL, ((Inv j) ∧
          ((m j < m i) ∧
          ((g.1 = g.1) ∧
          (((0 : Nat) = (0 : Nat)) ∧
          ((List.length g.3 = List.length g.3) ∧
          (((0 : Nat) = (0 : Nat)) ∧
          ((List.length g.4 = List.length g.4) ∧
          ((g.2 = g.2) ∧
          (((0 : Nat) = (0 : Nat)) ∧
          ((List.length j.3 = List.length i.3 + (1 : Nat)) ∧
          ((j.2 = inside (cellI (iCells IntKind.i64 g.3) ((0 : Nat) + Int.toNat (↑i.1 : Int) * (1 : Nat))) (0 : Int) (2147483647 : Int)) ∧
          (((↑j.1 : Int) = IntKind.wrap IntKind.i64 ((↑i.1 : Int) + (1 : Int))) ∧
          ((Eq (α := List Value) (iCells IntKind.i64 g.3) (iCells IntKind.i64 g.3)) ∧
          ((Plain (iCells IntKind.i64 g.3)) ∧
          ((Eq (α := List Value) (gC seC g.4) (gC seC g.4)) ∧
          ((Plain (gC seC g.4)) ∧
          ((Eq (α := List Value) (gC seC j.3) (List.take (List.length i.3 * (2 : Nat)) (List.drop (0 : Nat) (gC seC i.3)) ++ [Value.int IntKind.i64 g.2, Value.int IntKind.i64 (inside (cellI (iCells IntKind.i64 g.3) ((0 : Nat) + Int.toNat (↑i.1 : Int) * (1 : Nat))) (0 : Int) (2147483647 : Int))])) ∧
          ((Plain (gC seC j.3)) ∧
          True)))))))))))))))))))))
         False)
        (∃ j : SL, ((Inv j) ∧
        ((m j < m i) ∧
        ((g.1 = g.1) ∧
        (((0 : Nat) = (0 : Nat)) ∧
        ((List.length g.3 = List.length g.3) ∧
        (((0 : Nat) = (0 : Nat)) ∧
        ((List.length g.4 = List.length g.4) ∧
        ((g.2 = g.2) ∧
        (((0 : Nat) = (0 : Nat)) ∧
        ((List.length j.3 = List.length i.3 + (1 : Nat)) ∧
        ((j.2 = inside (cellI (iCells IntKind.i64 g.3) ((0 : Nat) + Int.toNat (↑i.1 : Int) * (1 : Nat))) (0 : Int) (2147483647 : Int)) ∧
        (((↑j.1 : Int) = IntKind.wrap IntKind.i64 ((↑i.1 : Int) + (1 : Int))) ∧
        ((Eq (α := List Value) (iCells IntKind.i64 g.3) (iCells IntKind.i64 g.3)) ∧
        ((Plain (iCells IntKind.i64 g.3)) ∧
        ((Eq (α := List Value) (gC seC g.4) (gC seC g.4)) ∧
        ((Plain (gC seC g.4)) ∧
        ((Eq (α := List Value) (gC seC j.3) (List.take (List.length i.3 * (2 : Nat)) (List.drop (0 : Nat) (gC seC i.3)) ++ [Value.int IntKind.i64 g.2, Value.int IntKind.i64 (inside (cellI (iCells IntKind.i64 g.3) ((0 : Nat) + Int.toNat (↑i.1 : Int) * (1 : Nat))) (0 : Int) (2147483647 : Int))])) ∧
        ((Plain (gC seC j.3)) ∧
        True))))))))))))))))))))
       False)
      False)))
     False)
    (∃ y : SL, (((okL g.2 y.2 y.3 ∧ List.length y.3 ≤ (100 : Nat))) ∧
    ((g.1 = g.1) ∧
    (((0 : Nat) = (0 : Nat)) ∧
    ((List.length y.3 = List.length i.3) ∧
    ((y.2 = i.2) ∧
    ((Eq (α := List Value) (iCells IntKind.i64 g.3) (iCells IntKind.i64 g.3)) ∧
    ((Plain (iCells IntKind.i64 g.3)) ∧
    ((Eq (α := List Value) (gC seC g.4) (gC seC g.4)) ∧
    ((Plain (gC seC g.4)) ∧
    ((Eq (α := List Value) (gC seC y.3) (gC seC i.3)) ∧
    ((Plain (gC seC y.3)) ∧
    True)))))))))))))
   (∃ y : SL, (((okL g.2 y.2 y.3 ∧ List.length y.3 ≤ (100 : Nat))) ∧
   ((g.1 = g.1) ∧
   (((0 : Nat) = (0 : Nat)) ∧
   ((List.length y.3 = List.length i.3) ∧
   ((y.2 = i.2) ∧
   ((Eq (α := List Value) (iCells IntKind.i64 g.3) (iCells IntKind.i64 g.3)) ∧
   ((Plain (iCells IntKind.i64 g.3)) ∧
   ((Eq (α := List Value) (gC seC g.4) (gC seC g.4)) ∧
   ((Plain (gC seC g.4)) ∧
   ((Eq (α := List Value) (gC seC y.3) (gC seC i.3)) ∧
   ((Plain (gC seC y.3)) ∧
   True))))))))))))) := by kernel_rfl
theorem last_vc0 (id : Int) (vs : List Int) (os : List Se) : mcall (EL 0) mL 60 8 [.int .i64 id, .slice (some ⟨0, 0, none⟩) vs.length 1, .slice (some ⟨1, 0, none⟩) os.length 2] ⟨mkR (nums 0 [iRo .i64 vs, gRo seC os]), 2⟩ (retIs 2 (.bool true) [iRo .i64 vs, gRo seC os]) =
  ((((True ∧ (True ∧ (True ∧ True))) ∧ (True ∧ (within id (0 : Int) (2 : Int) = (0 : Int) ∧ ((0 : Int) = (0 : Int) ∧ ((2 : Int) = (2 : Int) ∧ I64 id)))))) ∧
  (∃ g : GL, (((g.2 = (1 : Int) ∨ g.2 = (3 : Int) ∨ g.2 = (6 : Int)) ∧ List.length g.3 ≤ (9223372036854775807 : Nat) ∧ ∀ (x : Int), x ∈ GL.vs g → I64 x) ∧
  ((g.1 = id) ∧
  (((0 : Nat) = (0 : Nat)) ∧
  ((List.length g.3 = List.length vs) ∧
  (((0 : Nat) = (0 : Nat)) ∧
  ((List.length g.4 = List.length os) ∧
  ((g.2 = (1 : Int)) ∧
  (((0 : Nat) = (0 : Nat)) ∧
  (((-1 : Int) = (-1 : Int)) ∧
  (((0 : Int) = (0 : Int)) ∧
  ((Eq (α := List Value) (iCells IntKind.i64 g.3) (iCells IntKind.i64 vs)) ∧
  ((Plain (iCells IntKind.i64 g.3)) ∧
  ((Eq (α := List Value) (gC seC g.4) (gC seC os)) ∧
  ((Plain (gC seC g.4)) ∧
  ((Eq (α := List Value) ([]) ([])) ∧
  (∀ (y : SL), ((okL (GL.k g) (SL.w y) (SL.l y) ∧ List.length (SL.l y) ≤ (100 : Nat)) →
  (((((True ∧ (True ∧ (True ∧ (True ∧ (True ∧ True))))) ∧ (((0 : Nat) + List.length y.3 * (2 : Nat) ≤ List.length (gC seC y.3) ∧ Plain (List.take (List.length y.3 * (2 : Nat)) (List.drop (0 : Nat) (gC seC y.3)))) ∧ True)) ∧ (True ∧ (IsSe (Row.mk (List.take (List.length y.3 * (2 : Nat)) (List.drop (0 : Nat) (gC seC y.3))) true (Ob.cells true)) (List.length y.3) ∧ List.length y.3 ≤ (9223372036854775807 : Nat))))) ∧
  (br (decide (y.2 < (0 : Int)))
   (br ((appI (4096 : Int) (2147483647 : Int) (65535 : Int) (16384 : Int) (2147483647 : Int) (Row.mk (List.take (List.length y.3 * (2 : Nat)) (List.drop (0 : Nat) (gC seC y.3))) true (Ob.cells true))).1 == (4096 : Int) && ((appI (4096 : Int) (2147483647 : Int) (65535 : Int) (16384 : Int) (2147483647 : Int) (Row.mk (List.take (List.length y.3 * (2 : Nat)) (List.drop (0 : Nat) (gC seC y.3))) true (Ob.cells true))).2 == (2147483647 : Int) && ((appI (4096 : Int) (2147483647 : Int) (65535 : Int) (16384 : Int) (2147483647 : Int) (Row.mk (List.take (List.length y.3 * (2 : Nat)) (List.drop (0 : Nat) (gC seC y.3))) true (Ob.cells true))).3 == (65535 : Int) && ((appI (4096 : Int) (2147483647 : Int) (65535 : Int) (16384 : Int) (2147483647 : Int) (Row.mk (List.take (List.length y.3 * (2 : Nat)) (List.drop (0 : Nat) (gC seC y.3))) true (Ob.cells true))).4 == (16384 : Int) && ((appI (4096 : Int) (2147483647 : Int) (65535 : Int) (16384 : Int) (2147483647 : Int) (Row.mk (List.take (List.length y.3 * (2 : Nat)) (List.drop (0 : Nat) (gC seC y.3))) true (Ob.cells true))).5 == (2147483647 : Int) && true)))))
    (br (errI (Row.mk (List.take (List.length y.3 * (2 : Nat)) (List.drop (0 : Nat) (gC seC y.3))) true (Ob.cells true)) == (0 : Int))
     (((True ∧ (True ∧ True))) ∧
     ((Value.agg (Array.mk [Value.int IntKind.i64 (appI (4096 : Int) (2147483647 : Int) (65535 : Int) (16384 : Int) (2147483647 : Int) (Row.mk (List.take (List.length y.3 * (2 : Nat)) (List.drop (0 : Nat) (gC seC y.3))) true (Ob.cells true))).1, Value.int IntKind.i64 (appI (4096 : Int) (2147483647 : Int) (65535 : Int) (16384 : Int) (2147483647 : Int) (Row.mk (List.take (List.length y.3 * (2 : Nat)) (List.drop (0 : Nat) (gC seC y.3))) true (Ob.cells true))).2, Value.int IntKind.i64 (appI (4096 : Int) (2147483647 : Int) (65535 : Int) (16384 : Int) (2147483647 : Int) (Row.mk (List.take (List.length y.3 * (2 : Nat)) (List.drop (0 : Nat) (gC seC y.3))) true (Ob.cells true))).3, Value.int IntKind.i64 (appI (4096 : Int) (2147483647 : Int) (65535 : Int) (16384 : Int) (2147483647 : Int) (Row.mk (List.take (List.length y.3 * (2 : Nat)) (List.drop (0 : Nat) (gC seC y.3))) true (Ob.cells true))).4, Value.int IntKind.i64 (appI (4096 : Int) (2147483647 : Int) (65535 : Int) (16384 : Int) (2147483647 : Int) (Row.mk (List.take (List.length y.3 * (2 : Nat)) (List.drop (0 : Nat) (gC seC y.3))) true (Ob.cells true))).5]) = Value.agg (Array.mk [Value.int IntKind.i64 (appI (4096 : Int) (2147483647 : Int) (65535 : Int) (16384 : Int) (2147483647 : Int) (Row.mk (List.take (List.length y.3 * (2 : Nat)) (List.drop (0 : Nat) (gC seC y.3))) true (Ob.cells true))).1, Value.int IntKind.i64 (appI (4096 : Int) (2147483647 : Int) (65535 : Int) (16384 : Int) (2147483647 : Int) (Row.mk (List.take (List.length y.3 * (2 : Nat)) (List.drop (0 : Nat) (gC seC y.3))) true (Ob.cells true))).2, Value.int IntKind.i64 (appI (4096 : Int) (2147483647 : Int) (65535 : Int) (16384 : Int) (2147483647 : Int) (Row.mk (List.take (List.length y.3 * (2 : Nat)) (List.drop (0 : Nat) (gC seC y.3))) true (Ob.cells true))).3, Value.int IntKind.i64 (appI (4096 : Int) (2147483647 : Int) (65535 : Int) (16384 : Int) (2147483647 : Int) (Row.mk (List.take (List.length y.3 * (2 : Nat)) (List.drop (0 : Nat) (gC seC y.3))) true (Ob.cells true))).4, Value.int IntKind.i64 (appI (4096 : Int) (2147483647 : Int) (65535 : Int) (16384 : Int) (2147483647 : Int) (Row.mk (List.take (List.length y.3 * (2 : Nat)) (List.drop (0 : Nat) (gC seC y.3))) true (Ob.cells true))).5])) ∧
     ((Value.agg (Array.mk [Value.int IntKind.i64 (appI (4096 : Int) (2147483647 : Int) (65535 : Int) (16384 : Int) (2147483647 : Int) (Row.mk (List.take (List.length y.3 * (2 : Nat)) (List.drop (0 : Nat) (gC seC y.3))) true (Ob.cells true))).1, Value.int IntKind.i64 (appI (4096 : Int) (2147483647 : Int) (65535 : Int) (16384 : Int) (2147483647 : Int) (Row.mk (List.take (List.length y.3 * (2 : Nat)) (List.drop (0 : Nat) (gC seC y.3))) true (Ob.cells true))).2, Value.int IntKind.i64 (appI (4096 : Int) (2147483647 : Int) (65535 : Int) (16384 : Int) (2147483647 : Int) (Row.mk (List.take (List.length y.3 * (2 : Nat)) (List.drop (0 : Nat) (gC seC y.3))) true (Ob.cells true))).3, Value.int IntKind.i64 (appI (4096 : Int) (2147483647 : Int) (65535 : Int) (16384 : Int) (2147483647 : Int) (Row.mk (List.take (List.length y.3 * (2 : Nat)) (List.drop (0 : Nat) (gC seC y.3))) true (Ob.cells true))).4, Value.int IntKind.i64 (appI (4096 : Int) (2147483647 : Int) (65535 : Int) (16384 : Int) (2147483647 : Int) (Row.mk (List.take (List.length y.3 * (2 : Nat)) (List.drop (0 : Nat) (gC seC y.3))) true (Ob.cells true))).5]) = Value.agg (Array.mk [Value.int IntKind.i64 (appI (4096 : Int) (2147483647 : Int) (65535 : Int) (16384 : Int) (2147483647 : Int) (Row.mk (List.take (List.length y.3 * (2 : Nat)) (List.drop (0 : Nat) (gC seC y.3))) true (Ob.cells true))).1, Value.int IntKind.i64 (appI (4096 : Int) (2147483647 : Int) (65535 : Int) (16384 : Int) (2147483647 : Int) (Row.mk (List.take (List.length y.3 * (2 : Nat)) (List.drop (0 : Nat) (gC seC y.3))) true (Ob.cells true))).2, Value.int IntKind.i64 (appI (4096 : Int) (2147483647 : Int) (65535 : Int) (16384 : Int) (2147483647 : Int) (Row.mk (List.take (List.length y.3 * (2 : Nat)) (List.drop (0 : Nat) (gC seC y.3))) true (Ob.cells true))).3, Value.int IntKind.i64 (appI (4096 : Int) (2147483647 : Int) (65535 : Int) (16384 : Int) (2147483647 : Int) (Row.mk (List.take (List.length y.3 * (2 : Nat)) (List.drop (0 : Nat) (gC seC y.3))) true (Ob.cells true))).4, Value.int IntKind.i64 (appI (4096 : Int) (2147483647 : Int) (65535 : Int) (16384 : Int) (2147483647 : Int) (Row.mk (List.take (List.length y.3 * (2 : Nat)) (List.drop (0 : Nat) (gC seC y.3))) true (Ob.cells true))).5])) ∧
     ((true = true) ∧
     ((Eq (α := List Value) (iCells IntKind.i64 vs) (iCells IntKind.i64 g.3)) ∧
     ((Plain (iCells IntKind.i64 vs)) ∧
     ((Eq (α := List Value) (gC seC os) (gC seC g.4)) ∧
     ((Plain (gC seC os)) ∧
     True))))))))
     ((Value.agg (Array.mk [Value.int IntKind.i64 (appI (4096 : Int) (2147483647 : Int) (65535 : Int) (16384 : Int) (2147483647 : Int) (Row.mk (List.take (List.length y.3 * (2 : Nat)) (List.drop (0 : Nat) (gC seC y.3))) true (Ob.cells true))).1, Value.int IntKind.i64 (appI (4096 : Int) (2147483647 : Int) (65535 : Int) (16384 : Int) (2147483647 : Int) (Row.mk (List.take (List.length y.3 * (2 : Nat)) (List.drop (0 : Nat) (gC seC y.3))) true (Ob.cells true))).2, Value.int IntKind.i64 (appI (4096 : Int) (2147483647 : Int) (65535 : Int) (16384 : Int) (2147483647 : Int) (Row.mk (List.take (List.length y.3 * (2 : Nat)) (List.drop (0 : Nat) (gC seC y.3))) true (Ob.cells true))).3, Value.int IntKind.i64 (appI (4096 : Int) (2147483647 : Int) (65535 : Int) (16384 : Int) (2147483647 : Int) (Row.mk (List.take (List.length y.3 * (2 : Nat)) (List.drop (0 : Nat) (gC seC y.3))) true (Ob.cells true))).4, Value.int IntKind.i64 (appI (4096 : Int) (2147483647 : Int) (65535 : Int) (16384 : Int) (2147483647 : Int) (Row.mk (List.take (List.length y.3 * (2 : Nat)) (List.drop (0 : Nat) (gC seC y.3))) true (Ob.cells true))).5]) = Value.agg (Array.mk [Value.int IntKind.i64 (appI (4096 : Int) (2147483647 : Int) (65535 : Int) (16384 : Int) (2147483647 : Int) (Row.mk (List.take (List.length y.3 * (2 : Nat)) (List.drop (0 : Nat) (gC seC y.3))) true (Ob.cells true))).1, Value.int IntKind.i64 (appI (4096 : Int) (2147483647 : Int) (65535 : Int) (16384 : Int) (2147483647 : Int) (Row.mk (List.take (List.length y.3 * (2 : Nat)) (List.drop (0 : Nat) (gC seC y.3))) true (Ob.cells true))).2, Value.int IntKind.i64 (appI (4096 : Int) (2147483647 : Int) (65535 : Int) (16384 : Int) (2147483647 : Int) (Row.mk (List.take (List.length y.3 * (2 : Nat)) (List.drop (0 : Nat) (gC seC y.3))) true (Ob.cells true))).3, Value.int IntKind.i64 (appI (4096 : Int) (2147483647 : Int) (65535 : Int) (16384 : Int) (2147483647 : Int) (Row.mk (List.take (List.length y.3 * (2 : Nat)) (List.drop (0 : Nat) (gC seC y.3))) true (Ob.cells true))).4, Value.int IntKind.i64 (appI (4096 : Int) (2147483647 : Int) (65535 : Int) (16384 : Int) (2147483647 : Int) (Row.mk (List.take (List.length y.3 * (2 : Nat)) (List.drop (0 : Nat) (gC seC y.3))) true (Ob.cells true))).5])) ∧
     ((Value.agg (Array.mk [Value.int IntKind.i64 (appI (4096 : Int) (2147483647 : Int) (65535 : Int) (16384 : Int) (2147483647 : Int) (Row.mk (List.take (List.length y.3 * (2 : Nat)) (List.drop (0 : Nat) (gC seC y.3))) true (Ob.cells true))).1, Value.int IntKind.i64 (appI (4096 : Int) (2147483647 : Int) (65535 : Int) (16384 : Int) (2147483647 : Int) (Row.mk (List.take (List.length y.3 * (2 : Nat)) (List.drop (0 : Nat) (gC seC y.3))) true (Ob.cells true))).2, Value.int IntKind.i64 (appI (4096 : Int) (2147483647 : Int) (65535 : Int) (16384 : Int) (2147483647 : Int) (Row.mk (List.take (List.length y.3 * (2 : Nat)) (List.drop (0 : Nat) (gC seC y.3))) true (Ob.cells true))).3, Value.int IntKind.i64 (appI (4096 : Int) (2147483647 : Int) (65535 : Int) (16384 : Int) (2147483647 : Int) (Row.mk (List.take (List.length y.3 * (2 : Nat)) (List.drop (0 : Nat) (gC seC y.3))) true (Ob.cells true))).4, Value.int IntKind.i64 (appI (4096 : Int) (2147483647 : Int) (65535 : Int) (16384 : Int) (2147483647 : Int) (Row.mk (List.take (List.length y.3 * (2 : Nat)) (List.drop (0 : Nat) (gC seC y.3))) true (Ob.cells true))).5]) = Value.agg (Array.mk [Value.int IntKind.i64 (appI (4096 : Int) (2147483647 : Int) (65535 : Int) (16384 : Int) (2147483647 : Int) (Row.mk (List.take (List.length y.3 * (2 : Nat)) (List.drop (0 : Nat) (gC seC y.3))) true (Ob.cells true))).1, Value.int IntKind.i64 (appI (4096 : Int) (2147483647 : Int) (65535 : Int) (16384 : Int) (2147483647 : Int) (Row.mk (List.take (List.length y.3 * (2 : Nat)) (List.drop (0 : Nat) (gC seC y.3))) true (Ob.cells true))).2, Value.int IntKind.i64 (appI (4096 : Int) (2147483647 : Int) (65535 : Int) (16384 : Int) (2147483647 : Int) (Row.mk (List.take (List.length y.3 * (2 : Nat)) (List.drop (0 : Nat) (gC seC y.3))) true (Ob.cells true))).3, Value.int IntKind.i64 (appI (4096 : Int) (2147483647 : Int) (65535 : Int) (16384 : Int) (2147483647 : Int) (Row.mk (List.take (List.length y.3 * (2 : Nat)) (List.drop (0 : Nat) (gC seC y.3))) true (Ob.cells true))).4, Value.int IntKind.i64 (appI (4096 : Int) (2147483647 : Int) (65535 : Int) (16384 : Int) (2147483647 : Int) (Row.mk (List.take (List.length y.3 * (2 : Nat)) (List.drop (0 : Nat) (gC seC y.3))) true (Ob.cells true))).5])) ∧
     ((true = false) ∧
     ((Eq (α := List Value) (iCells IntKind.i64 vs) (iCells IntKind.i64 g.3)) ∧
     ((Plain (iCells IntKind.i64 vs)) ∧
     ((Eq (α := List Value) (gC seC os) (gC seC g.4)) ∧
     ((Plain (gC seC os)) ∧
     True))))))))
    ((Value.agg (Array.mk [Value.int IntKind.i64 (appI (4096 : Int) (2147483647 : Int) (65535 : Int) (16384 : Int) (2147483647 : Int) (Row.mk (List.take (List.length y.3 * (2 : Nat)) (List.drop (0 : Nat) (gC seC y.3))) true (Ob.cells true))).1, Value.int IntKind.i64 (appI (4096 : Int) (2147483647 : Int) (65535 : Int) (16384 : Int) (2147483647 : Int) (Row.mk (List.take (List.length y.3 * (2 : Nat)) (List.drop (0 : Nat) (gC seC y.3))) true (Ob.cells true))).2, Value.int IntKind.i64 (appI (4096 : Int) (2147483647 : Int) (65535 : Int) (16384 : Int) (2147483647 : Int) (Row.mk (List.take (List.length y.3 * (2 : Nat)) (List.drop (0 : Nat) (gC seC y.3))) true (Ob.cells true))).3, Value.int IntKind.i64 (appI (4096 : Int) (2147483647 : Int) (65535 : Int) (16384 : Int) (2147483647 : Int) (Row.mk (List.take (List.length y.3 * (2 : Nat)) (List.drop (0 : Nat) (gC seC y.3))) true (Ob.cells true))).4, Value.int IntKind.i64 (appI (4096 : Int) (2147483647 : Int) (65535 : Int) (16384 : Int) (2147483647 : Int) (Row.mk (List.take (List.length y.3 * (2 : Nat)) (List.drop (0 : Nat) (gC seC y.3))) true (Ob.cells true))).5]) = Value.agg (Array.mk [Value.int IntKind.i64 (appI (4096 : Int) (2147483647 : Int) (65535 : Int) (16384 : Int) (2147483647 : Int) (Row.mk (List.take (List.length y.3 * (2 : Nat)) (List.drop (0 : Nat) (gC seC y.3))) true (Ob.cells true))).1, Value.int IntKind.i64 (appI (4096 : Int) (2147483647 : Int) (65535 : Int) (16384 : Int) (2147483647 : Int) (Row.mk (List.take (List.length y.3 * (2 : Nat)) (List.drop (0 : Nat) (gC seC y.3))) true (Ob.cells true))).2, Value.int IntKind.i64 (appI (4096 : Int) (2147483647 : Int) (65535 : Int) (16384 : Int) (2147483647 : Int) (Row.mk (List.take (List.length y.3 * (2 : Nat)) (List.drop (0 : Nat) (gC seC y.3))) true (Ob.cells true))).3, Value.int IntKind.i64 (appI (4096 : Int) (2147483647 : Int) (65535 : Int) (16384 : Int) (2147483647 : Int) (Row.mk (List.take (List.length y.3 * (2 : Nat)) (List.drop (0 : Nat) (gC seC y.3))) true (Ob.cells true))).4, Value.int IntKind.i64 (appI (4096 : Int) (2147483647 : Int) (65535 : Int) (16384 : Int) (2147483647 : Int) (Row.mk (List.take (List.length y.3 * (2 : Nat)) (List.drop (0 : Nat) (gC seC y.3))) true (Ob.cells true))).5])) ∧
    ((Value.agg (Array.mk [Value.int IntKind.i64 (appI (4096 : Int) (2147483647 : Int) (65535 : Int) (16384 : Int) (2147483647 : Int) (Row.mk (List.take (List.length y.3 * (2 : Nat)) (List.drop (0 : Nat) (gC seC y.3))) true (Ob.cells true))).1, Value.int IntKind.i64 (appI (4096 : Int) (2147483647 : Int) (65535 : Int) (16384 : Int) (2147483647 : Int) (Row.mk (List.take (List.length y.3 * (2 : Nat)) (List.drop (0 : Nat) (gC seC y.3))) true (Ob.cells true))).2, Value.int IntKind.i64 (appI (4096 : Int) (2147483647 : Int) (65535 : Int) (16384 : Int) (2147483647 : Int) (Row.mk (List.take (List.length y.3 * (2 : Nat)) (List.drop (0 : Nat) (gC seC y.3))) true (Ob.cells true))).3, Value.int IntKind.i64 (appI (4096 : Int) (2147483647 : Int) (65535 : Int) (16384 : Int) (2147483647 : Int) (Row.mk (List.take (List.length y.3 * (2 : Nat)) (List.drop (0 : Nat) (gC seC y.3))) true (Ob.cells true))).4, Value.int IntKind.i64 (appI (4096 : Int) (2147483647 : Int) (65535 : Int) (16384 : Int) (2147483647 : Int) (Row.mk (List.take (List.length y.3 * (2 : Nat)) (List.drop (0 : Nat) (gC seC y.3))) true (Ob.cells true))).5]) = Value.agg (Array.mk [Value.int IntKind.i64 (appI (4096 : Int) (2147483647 : Int) (65535 : Int) (16384 : Int) (2147483647 : Int) (Row.mk (List.take (List.length y.3 * (2 : Nat)) (List.drop (0 : Nat) (gC seC y.3))) true (Ob.cells true))).1, Value.int IntKind.i64 (appI (4096 : Int) (2147483647 : Int) (65535 : Int) (16384 : Int) (2147483647 : Int) (Row.mk (List.take (List.length y.3 * (2 : Nat)) (List.drop (0 : Nat) (gC seC y.3))) true (Ob.cells true))).2, Value.int IntKind.i64 (appI (4096 : Int) (2147483647 : Int) (65535 : Int) (16384 : Int) (2147483647 : Int) (Row.mk (List.take (List.length y.3 * (2 : Nat)) (List.drop (0 : Nat) (gC seC y.3))) true (Ob.cells true))).3, Value.int IntKind.i64 (appI (4096 : Int) (2147483647 : Int) (65535 : Int) (16384 : Int) (2147483647 : Int) (Row.mk (List.take (List.length y.3 * (2 : Nat)) (List.drop (0 : Nat) (gC seC y.3))) true (Ob.cells true))).4, Value.int IntKind.i64 (appI (4096 : Int) (2147483647 : Int) (65535 : Int) (16384 : Int) (2147483647 : Int) (Row.mk (List.take (List.length y.3 * (2 : Nat)) (List.drop (0 : Nat) (gC seC y.3))) true (Ob.cells true))).5])) ∧
    ((true = false) ∧
    ((Eq (α := List Value) (iCells IntKind.i64 vs) (iCells IntKind.i64 g.3)) ∧
    ((Plain (iCells IntKind.i64 vs)) ∧
    ((Eq (α := List Value) (gC seC os) (gC seC g.4)) ∧
    ((Plain (gC seC os)) ∧
    True))))))))
   ((((True ∧ (True ∧ (True ∧ True))) ∧ (True ∧ (within g.1 (0 : Int) (2 : Int) = (0 : Int) ∧ ((0 : Int) = (0 : Int) ∧ ((2 : Int) = (2 : Int) ∧ I64 g.1)))))) ∧
   ((Value.int IntKind.i64 (appI (4096 : Int) (2147483647 : Int) (65535 : Int) (16384 : Int) (2147483647 : Int) (Row.mk (List.take (List.length y.3 * (2 : Nat)) (List.drop (0 : Nat) (gC seC y.3))) true (Ob.cells true))).1 = Value.int IntKind.i64 (appI (4096 : Int) (2147483647 : Int) (65535 : Int) (16384 : Int) (2147483647 : Int) (Row.mk (List.take (List.length y.3 * (2 : Nat)) (List.drop (0 : Nat) (gC seC y.3))) true (Ob.cells true))).1) ∧
   ((Value.int IntKind.i64 (appI (4096 : Int) (2147483647 : Int) (65535 : Int) (16384 : Int) (2147483647 : Int) (Row.mk (List.take (List.length y.3 * (2 : Nat)) (List.drop (0 : Nat) (gC seC y.3))) true (Ob.cells true))).1 = Value.int IntKind.i64 (appI (4096 : Int) (2147483647 : Int) (65535 : Int) (16384 : Int) (2147483647 : Int) (Row.mk (List.take (List.length y.3 * (2 : Nat)) (List.drop (0 : Nat) (gC seC y.3))) true (Ob.cells true))).1) ∧
   ((Value.int IntKind.i64 (appI (4096 : Int) (2147483647 : Int) (65535 : Int) (16384 : Int) (2147483647 : Int) (Row.mk (List.take (List.length y.3 * (2 : Nat)) (List.drop (0 : Nat) (gC seC y.3))) true (Ob.cells true))).2 = Value.int IntKind.i64 (appI (4096 : Int) (2147483647 : Int) (65535 : Int) (16384 : Int) (2147483647 : Int) (Row.mk (List.take (List.length y.3 * (2 : Nat)) (List.drop (0 : Nat) (gC seC y.3))) true (Ob.cells true))).2) ∧
   ((Value.int IntKind.i64 (appI (4096 : Int) (2147483647 : Int) (65535 : Int) (16384 : Int) (2147483647 : Int) (Row.mk (List.take (List.length y.3 * (2 : Nat)) (List.drop (0 : Nat) (gC seC y.3))) true (Ob.cells true))).2 = Value.int IntKind.i64 (appI (4096 : Int) (2147483647 : Int) (65535 : Int) (16384 : Int) (2147483647 : Int) (Row.mk (List.take (List.length y.3 * (2 : Nat)) (List.drop (0 : Nat) (gC seC y.3))) true (Ob.cells true))).2) ∧
   ((Value.int IntKind.i64 (appI (4096 : Int) (2147483647 : Int) (65535 : Int) (16384 : Int) (2147483647 : Int) (Row.mk (List.take (List.length y.3 * (2 : Nat)) (List.drop (0 : Nat) (gC seC y.3))) true (Ob.cells true))).5 = Value.int IntKind.i64 (appI (4096 : Int) (2147483647 : Int) (65535 : Int) (16384 : Int) (2147483647 : Int) (Row.mk (List.take (List.length y.3 * (2 : Nat)) (List.drop (0 : Nat) (gC seC y.3))) true (Ob.cells true))).5) ∧
   ((Value.int IntKind.i64 (appI (4096 : Int) (2147483647 : Int) (65535 : Int) (16384 : Int) (2147483647 : Int) (Row.mk (List.take (List.length y.3 * (2 : Nat)) (List.drop (0 : Nat) (gC seC y.3))) true (Ob.cells true))).5 = Value.int IntKind.i64 (appI (4096 : Int) (2147483647 : Int) (65535 : Int) (16384 : Int) (2147483647 : Int) (Row.mk (List.take (List.length y.3 * (2 : Nat)) (List.drop (0 : Nat) (gC seC y.3))) true (Ob.cells true))).5) ∧
   ((Value.int IntKind.i64 (appI (4096 : Int) (2147483647 : Int) (65535 : Int) (16384 : Int) (2147483647 : Int) (Row.mk (List.take (List.length y.3 * (2 : Nat)) (List.drop (0 : Nat) (gC seC y.3))) true (Ob.cells true))).1 = Value.int IntKind.i64 (appI (4096 : Int) (2147483647 : Int) (65535 : Int) (16384 : Int) (2147483647 : Int) (Row.mk (List.take (List.length y.3 * (2 : Nat)) (List.drop (0 : Nat) (gC seC y.3))) true (Ob.cells true))).1) ∧
   (br ((appI (4096 : Int) (2147483647 : Int) (65535 : Int) (16384 : Int) (2147483647 : Int) (Row.mk (List.take (List.length y.3 * (2 : Nat)) (List.drop (0 : Nat) (gC seC y.3))) true (Ob.cells true))).1 == y.2)
    (br (errI (Row.mk (List.take (List.length y.3 * (2 : Nat)) (List.drop (0 : Nat) (gC seC y.3))) true (Ob.cells true)) == (0 : Int))
     (((True ∧ (True ∧ True))) ∧
     ((true = true) ∧
     ((Eq (α := List Value) (iCells IntKind.i64 vs) (iCells IntKind.i64 g.3)) ∧
     ((Plain (iCells IntKind.i64 vs)) ∧
     ((Eq (α := List Value) (gC seC os) (gC seC g.4)) ∧
     ((Plain (gC seC os)) ∧
     True))))))
     ((true = false) ∧
     ((Eq (α := List Value) (iCells IntKind.i64 vs) (iCells IntKind.i64 g.3)) ∧
     ((Plain (iCells IntKind.i64 vs)) ∧
     ((Eq (α := List Value) (gC seC os) (gC seC g.4)) ∧
     ((Plain (gC seC os)) ∧
     True))))))
    ((true = false) ∧
    ((Eq (α := List Value) (iCells IntKind.i64 vs) (iCells IntKind.i64 g.3)) ∧
    ((Plain (iCells IntKind.i64 vs)) ∧
    ((Eq (α := List Value) (gC seC os) (gC seC g.4)) ∧
    ((Plain (gC seC os)) ∧
    True))))))))))))))))))))))))))))))))))) := by kernel_rfl
theorem last_vc1 (id : Int) (vs : List Int) (os : List Se) : mcall (EL 1) mL 60 8 [.int .i64 id, .slice (some ⟨0, 0, none⟩) vs.length 1, .slice (some ⟨1, 0, none⟩) os.length 2] ⟨mkR (nums 0 [iRo .i64 vs, gRo seC os]), 2⟩ (retIs 2 (.bool true) [iRo .i64 vs, gRo seC os]) =
  ((((True ∧ (True ∧ (True ∧ True))) ∧ (True ∧ (within id (0 : Int) (2 : Int) = (1 : Int) ∧ ((0 : Int) = (0 : Int) ∧ ((2 : Int) = (2 : Int) ∧ I64 id)))))) ∧
  (∃ g : GL, (((g.2 = (1 : Int) ∨ g.2 = (3 : Int) ∨ g.2 = (6 : Int)) ∧ List.length g.3 ≤ (9223372036854775807 : Nat) ∧ ∀ (x : Int), x ∈ GL.vs g → I64 x) ∧
  ((g.1 = id) ∧
  (((0 : Nat) = (0 : Nat)) ∧
  ((List.length g.3 = List.length vs) ∧
  (((0 : Nat) = (0 : Nat)) ∧
  ((List.length g.4 = List.length os) ∧
  ((g.2 = (3 : Int)) ∧
  (((0 : Nat) = (0 : Nat)) ∧
  (((-1 : Int) = (-1 : Int)) ∧
  (((0 : Int) = (0 : Int)) ∧
  ((Eq (α := List Value) (iCells IntKind.i64 g.3) (iCells IntKind.i64 vs)) ∧
  ((Plain (iCells IntKind.i64 g.3)) ∧
  ((Eq (α := List Value) (gC seC g.4) (gC seC os)) ∧
  ((Plain (gC seC g.4)) ∧
  ((Eq (α := List Value) ([]) ([])) ∧
  (∀ (y : SL), ((okL (GL.k g) (SL.w y) (SL.l y) ∧ List.length (SL.l y) ≤ (100 : Nat)) →
  (((((True ∧ (True ∧ (True ∧ (True ∧ (True ∧ True))))) ∧ (((0 : Nat) + List.length y.3 * (2 : Nat) ≤ List.length (gC seC y.3) ∧ Plain (List.take (List.length y.3 * (2 : Nat)) (List.drop (0 : Nat) (gC seC y.3)))) ∧ True)) ∧ (True ∧ (IsSe (Row.mk (List.take (List.length y.3 * (2 : Nat)) (List.drop (0 : Nat) (gC seC y.3))) true (Ob.cells true)) (List.length y.3) ∧ List.length y.3 ≤ (9223372036854775807 : Nat))))) ∧
  (br (decide (y.2 < (0 : Int)))
   (br ((appI (4096 : Int) (2147483647 : Int) (65535 : Int) (16384 : Int) (2147483647 : Int) (Row.mk (List.take (List.length y.3 * (2 : Nat)) (List.drop (0 : Nat) (gC seC y.3))) true (Ob.cells true))).1 == (4096 : Int) && ((appI (4096 : Int) (2147483647 : Int) (65535 : Int) (16384 : Int) (2147483647 : Int) (Row.mk (List.take (List.length y.3 * (2 : Nat)) (List.drop (0 : Nat) (gC seC y.3))) true (Ob.cells true))).2 == (2147483647 : Int) && ((appI (4096 : Int) (2147483647 : Int) (65535 : Int) (16384 : Int) (2147483647 : Int) (Row.mk (List.take (List.length y.3 * (2 : Nat)) (List.drop (0 : Nat) (gC seC y.3))) true (Ob.cells true))).3 == (65535 : Int) && ((appI (4096 : Int) (2147483647 : Int) (65535 : Int) (16384 : Int) (2147483647 : Int) (Row.mk (List.take (List.length y.3 * (2 : Nat)) (List.drop (0 : Nat) (gC seC y.3))) true (Ob.cells true))).4 == (16384 : Int) && ((appI (4096 : Int) (2147483647 : Int) (65535 : Int) (16384 : Int) (2147483647 : Int) (Row.mk (List.take (List.length y.3 * (2 : Nat)) (List.drop (0 : Nat) (gC seC y.3))) true (Ob.cells true))).5 == (2147483647 : Int) && true)))))
    (br (errI (Row.mk (List.take (List.length y.3 * (2 : Nat)) (List.drop (0 : Nat) (gC seC y.3))) true (Ob.cells true)) == (0 : Int))
     (((True ∧ (True ∧ True))) ∧
     ((Value.agg (Array.mk [Value.int IntKind.i64 (appI (4096 : Int) (2147483647 : Int) (65535 : Int) (16384 : Int) (2147483647 : Int) (Row.mk (List.take (List.length y.3 * (2 : Nat)) (List.drop (0 : Nat) (gC seC y.3))) true (Ob.cells true))).1, Value.int IntKind.i64 (appI (4096 : Int) (2147483647 : Int) (65535 : Int) (16384 : Int) (2147483647 : Int) (Row.mk (List.take (List.length y.3 * (2 : Nat)) (List.drop (0 : Nat) (gC seC y.3))) true (Ob.cells true))).2, Value.int IntKind.i64 (appI (4096 : Int) (2147483647 : Int) (65535 : Int) (16384 : Int) (2147483647 : Int) (Row.mk (List.take (List.length y.3 * (2 : Nat)) (List.drop (0 : Nat) (gC seC y.3))) true (Ob.cells true))).3, Value.int IntKind.i64 (appI (4096 : Int) (2147483647 : Int) (65535 : Int) (16384 : Int) (2147483647 : Int) (Row.mk (List.take (List.length y.3 * (2 : Nat)) (List.drop (0 : Nat) (gC seC y.3))) true (Ob.cells true))).4, Value.int IntKind.i64 (appI (4096 : Int) (2147483647 : Int) (65535 : Int) (16384 : Int) (2147483647 : Int) (Row.mk (List.take (List.length y.3 * (2 : Nat)) (List.drop (0 : Nat) (gC seC y.3))) true (Ob.cells true))).5]) = Value.agg (Array.mk [Value.int IntKind.i64 (appI (4096 : Int) (2147483647 : Int) (65535 : Int) (16384 : Int) (2147483647 : Int) (Row.mk (List.take (List.length y.3 * (2 : Nat)) (List.drop (0 : Nat) (gC seC y.3))) true (Ob.cells true))).1, Value.int IntKind.i64 (appI (4096 : Int) (2147483647 : Int) (65535 : Int) (16384 : Int) (2147483647 : Int) (Row.mk (List.take (List.length y.3 * (2 : Nat)) (List.drop (0 : Nat) (gC seC y.3))) true (Ob.cells true))).2, Value.int IntKind.i64 (appI (4096 : Int) (2147483647 : Int) (65535 : Int) (16384 : Int) (2147483647 : Int) (Row.mk (List.take (List.length y.3 * (2 : Nat)) (List.drop (0 : Nat) (gC seC y.3))) true (Ob.cells true))).3, Value.int IntKind.i64 (appI (4096 : Int) (2147483647 : Int) (65535 : Int) (16384 : Int) (2147483647 : Int) (Row.mk (List.take (List.length y.3 * (2 : Nat)) (List.drop (0 : Nat) (gC seC y.3))) true (Ob.cells true))).4, Value.int IntKind.i64 (appI (4096 : Int) (2147483647 : Int) (65535 : Int) (16384 : Int) (2147483647 : Int) (Row.mk (List.take (List.length y.3 * (2 : Nat)) (List.drop (0 : Nat) (gC seC y.3))) true (Ob.cells true))).5])) ∧
     ((Value.agg (Array.mk [Value.int IntKind.i64 (appI (4096 : Int) (2147483647 : Int) (65535 : Int) (16384 : Int) (2147483647 : Int) (Row.mk (List.take (List.length y.3 * (2 : Nat)) (List.drop (0 : Nat) (gC seC y.3))) true (Ob.cells true))).1, Value.int IntKind.i64 (appI (4096 : Int) (2147483647 : Int) (65535 : Int) (16384 : Int) (2147483647 : Int) (Row.mk (List.take (List.length y.3 * (2 : Nat)) (List.drop (0 : Nat) (gC seC y.3))) true (Ob.cells true))).2, Value.int IntKind.i64 (appI (4096 : Int) (2147483647 : Int) (65535 : Int) (16384 : Int) (2147483647 : Int) (Row.mk (List.take (List.length y.3 * (2 : Nat)) (List.drop (0 : Nat) (gC seC y.3))) true (Ob.cells true))).3, Value.int IntKind.i64 (appI (4096 : Int) (2147483647 : Int) (65535 : Int) (16384 : Int) (2147483647 : Int) (Row.mk (List.take (List.length y.3 * (2 : Nat)) (List.drop (0 : Nat) (gC seC y.3))) true (Ob.cells true))).4, Value.int IntKind.i64 (appI (4096 : Int) (2147483647 : Int) (65535 : Int) (16384 : Int) (2147483647 : Int) (Row.mk (List.take (List.length y.3 * (2 : Nat)) (List.drop (0 : Nat) (gC seC y.3))) true (Ob.cells true))).5]) = Value.agg (Array.mk [Value.int IntKind.i64 (appI (4096 : Int) (2147483647 : Int) (65535 : Int) (16384 : Int) (2147483647 : Int) (Row.mk (List.take (List.length y.3 * (2 : Nat)) (List.drop (0 : Nat) (gC seC y.3))) true (Ob.cells true))).1, Value.int IntKind.i64 (appI (4096 : Int) (2147483647 : Int) (65535 : Int) (16384 : Int) (2147483647 : Int) (Row.mk (List.take (List.length y.3 * (2 : Nat)) (List.drop (0 : Nat) (gC seC y.3))) true (Ob.cells true))).2, Value.int IntKind.i64 (appI (4096 : Int) (2147483647 : Int) (65535 : Int) (16384 : Int) (2147483647 : Int) (Row.mk (List.take (List.length y.3 * (2 : Nat)) (List.drop (0 : Nat) (gC seC y.3))) true (Ob.cells true))).3, Value.int IntKind.i64 (appI (4096 : Int) (2147483647 : Int) (65535 : Int) (16384 : Int) (2147483647 : Int) (Row.mk (List.take (List.length y.3 * (2 : Nat)) (List.drop (0 : Nat) (gC seC y.3))) true (Ob.cells true))).4, Value.int IntKind.i64 (appI (4096 : Int) (2147483647 : Int) (65535 : Int) (16384 : Int) (2147483647 : Int) (Row.mk (List.take (List.length y.3 * (2 : Nat)) (List.drop (0 : Nat) (gC seC y.3))) true (Ob.cells true))).5])) ∧
     ((true = true) ∧
     ((Eq (α := List Value) (iCells IntKind.i64 vs) (iCells IntKind.i64 g.3)) ∧
     ((Plain (iCells IntKind.i64 vs)) ∧
     ((Eq (α := List Value) (gC seC os) (gC seC g.4)) ∧
     ((Plain (gC seC os)) ∧
     True))))))))
     ((Value.agg (Array.mk [Value.int IntKind.i64 (appI (4096 : Int) (2147483647 : Int) (65535 : Int) (16384 : Int) (2147483647 : Int) (Row.mk (List.take (List.length y.3 * (2 : Nat)) (List.drop (0 : Nat) (gC seC y.3))) true (Ob.cells true))).1, Value.int IntKind.i64 (appI (4096 : Int) (2147483647 : Int) (65535 : Int) (16384 : Int) (2147483647 : Int) (Row.mk (List.take (List.length y.3 * (2 : Nat)) (List.drop (0 : Nat) (gC seC y.3))) true (Ob.cells true))).2, Value.int IntKind.i64 (appI (4096 : Int) (2147483647 : Int) (65535 : Int) (16384 : Int) (2147483647 : Int) (Row.mk (List.take (List.length y.3 * (2 : Nat)) (List.drop (0 : Nat) (gC seC y.3))) true (Ob.cells true))).3, Value.int IntKind.i64 (appI (4096 : Int) (2147483647 : Int) (65535 : Int) (16384 : Int) (2147483647 : Int) (Row.mk (List.take (List.length y.3 * (2 : Nat)) (List.drop (0 : Nat) (gC seC y.3))) true (Ob.cells true))).4, Value.int IntKind.i64 (appI (4096 : Int) (2147483647 : Int) (65535 : Int) (16384 : Int) (2147483647 : Int) (Row.mk (List.take (List.length y.3 * (2 : Nat)) (List.drop (0 : Nat) (gC seC y.3))) true (Ob.cells true))).5]) = Value.agg (Array.mk [Value.int IntKind.i64 (appI (4096 : Int) (2147483647 : Int) (65535 : Int) (16384 : Int) (2147483647 : Int) (Row.mk (List.take (List.length y.3 * (2 : Nat)) (List.drop (0 : Nat) (gC seC y.3))) true (Ob.cells true))).1, Value.int IntKind.i64 (appI (4096 : Int) (2147483647 : Int) (65535 : Int) (16384 : Int) (2147483647 : Int) (Row.mk (List.take (List.length y.3 * (2 : Nat)) (List.drop (0 : Nat) (gC seC y.3))) true (Ob.cells true))).2, Value.int IntKind.i64 (appI (4096 : Int) (2147483647 : Int) (65535 : Int) (16384 : Int) (2147483647 : Int) (Row.mk (List.take (List.length y.3 * (2 : Nat)) (List.drop (0 : Nat) (gC seC y.3))) true (Ob.cells true))).3, Value.int IntKind.i64 (appI (4096 : Int) (2147483647 : Int) (65535 : Int) (16384 : Int) (2147483647 : Int) (Row.mk (List.take (List.length y.3 * (2 : Nat)) (List.drop (0 : Nat) (gC seC y.3))) true (Ob.cells true))).4, Value.int IntKind.i64 (appI (4096 : Int) (2147483647 : Int) (65535 : Int) (16384 : Int) (2147483647 : Int) (Row.mk (List.take (List.length y.3 * (2 : Nat)) (List.drop (0 : Nat) (gC seC y.3))) true (Ob.cells true))).5])) ∧
     ((Value.agg (Array.mk [Value.int IntKind.i64 (appI (4096 : Int) (2147483647 : Int) (65535 : Int) (16384 : Int) (2147483647 : Int) (Row.mk (List.take (List.length y.3 * (2 : Nat)) (List.drop (0 : Nat) (gC seC y.3))) true (Ob.cells true))).1, Value.int IntKind.i64 (appI (4096 : Int) (2147483647 : Int) (65535 : Int) (16384 : Int) (2147483647 : Int) (Row.mk (List.take (List.length y.3 * (2 : Nat)) (List.drop (0 : Nat) (gC seC y.3))) true (Ob.cells true))).2, Value.int IntKind.i64 (appI (4096 : Int) (2147483647 : Int) (65535 : Int) (16384 : Int) (2147483647 : Int) (Row.mk (List.take (List.length y.3 * (2 : Nat)) (List.drop (0 : Nat) (gC seC y.3))) true (Ob.cells true))).3, Value.int IntKind.i64 (appI (4096 : Int) (2147483647 : Int) (65535 : Int) (16384 : Int) (2147483647 : Int) (Row.mk (List.take (List.length y.3 * (2 : Nat)) (List.drop (0 : Nat) (gC seC y.3))) true (Ob.cells true))).4, Value.int IntKind.i64 (appI (4096 : Int) (2147483647 : Int) (65535 : Int) (16384 : Int) (2147483647 : Int) (Row.mk (List.take (List.length y.3 * (2 : Nat)) (List.drop (0 : Nat) (gC seC y.3))) true (Ob.cells true))).5]) = Value.agg (Array.mk [Value.int IntKind.i64 (appI (4096 : Int) (2147483647 : Int) (65535 : Int) (16384 : Int) (2147483647 : Int) (Row.mk (List.take (List.length y.3 * (2 : Nat)) (List.drop (0 : Nat) (gC seC y.3))) true (Ob.cells true))).1, Value.int IntKind.i64 (appI (4096 : Int) (2147483647 : Int) (65535 : Int) (16384 : Int) (2147483647 : Int) (Row.mk (List.take (List.length y.3 * (2 : Nat)) (List.drop (0 : Nat) (gC seC y.3))) true (Ob.cells true))).2, Value.int IntKind.i64 (appI (4096 : Int) (2147483647 : Int) (65535 : Int) (16384 : Int) (2147483647 : Int) (Row.mk (List.take (List.length y.3 * (2 : Nat)) (List.drop (0 : Nat) (gC seC y.3))) true (Ob.cells true))).3, Value.int IntKind.i64 (appI (4096 : Int) (2147483647 : Int) (65535 : Int) (16384 : Int) (2147483647 : Int) (Row.mk (List.take (List.length y.3 * (2 : Nat)) (List.drop (0 : Nat) (gC seC y.3))) true (Ob.cells true))).4, Value.int IntKind.i64 (appI (4096 : Int) (2147483647 : Int) (65535 : Int) (16384 : Int) (2147483647 : Int) (Row.mk (List.take (List.length y.3 * (2 : Nat)) (List.drop (0 : Nat) (gC seC y.3))) true (Ob.cells true))).5])) ∧
     ((true = false) ∧
     ((Eq (α := List Value) (iCells IntKind.i64 vs) (iCells IntKind.i64 g.3)) ∧
     ((Plain (iCells IntKind.i64 vs)) ∧
     ((Eq (α := List Value) (gC seC os) (gC seC g.4)) ∧
     ((Plain (gC seC os)) ∧
     True))))))))
    ((Value.agg (Array.mk [Value.int IntKind.i64 (appI (4096 : Int) (2147483647 : Int) (65535 : Int) (16384 : Int) (2147483647 : Int) (Row.mk (List.take (List.length y.3 * (2 : Nat)) (List.drop (0 : Nat) (gC seC y.3))) true (Ob.cells true))).1, Value.int IntKind.i64 (appI (4096 : Int) (2147483647 : Int) (65535 : Int) (16384 : Int) (2147483647 : Int) (Row.mk (List.take (List.length y.3 * (2 : Nat)) (List.drop (0 : Nat) (gC seC y.3))) true (Ob.cells true))).2, Value.int IntKind.i64 (appI (4096 : Int) (2147483647 : Int) (65535 : Int) (16384 : Int) (2147483647 : Int) (Row.mk (List.take (List.length y.3 * (2 : Nat)) (List.drop (0 : Nat) (gC seC y.3))) true (Ob.cells true))).3, Value.int IntKind.i64 (appI (4096 : Int) (2147483647 : Int) (65535 : Int) (16384 : Int) (2147483647 : Int) (Row.mk (List.take (List.length y.3 * (2 : Nat)) (List.drop (0 : Nat) (gC seC y.3))) true (Ob.cells true))).4, Value.int IntKind.i64 (appI (4096 : Int) (2147483647 : Int) (65535 : Int) (16384 : Int) (2147483647 : Int) (Row.mk (List.take (List.length y.3 * (2 : Nat)) (List.drop (0 : Nat) (gC seC y.3))) true (Ob.cells true))).5]) = Value.agg (Array.mk [Value.int IntKind.i64 (appI (4096 : Int) (2147483647 : Int) (65535 : Int) (16384 : Int) (2147483647 : Int) (Row.mk (List.take (List.length y.3 * (2 : Nat)) (List.drop (0 : Nat) (gC seC y.3))) true (Ob.cells true))).1, Value.int IntKind.i64 (appI (4096 : Int) (2147483647 : Int) (65535 : Int) (16384 : Int) (2147483647 : Int) (Row.mk (List.take (List.length y.3 * (2 : Nat)) (List.drop (0 : Nat) (gC seC y.3))) true (Ob.cells true))).2, Value.int IntKind.i64 (appI (4096 : Int) (2147483647 : Int) (65535 : Int) (16384 : Int) (2147483647 : Int) (Row.mk (List.take (List.length y.3 * (2 : Nat)) (List.drop (0 : Nat) (gC seC y.3))) true (Ob.cells true))).3, Value.int IntKind.i64 (appI (4096 : Int) (2147483647 : Int) (65535 : Int) (16384 : Int) (2147483647 : Int) (Row.mk (List.take (List.length y.3 * (2 : Nat)) (List.drop (0 : Nat) (gC seC y.3))) true (Ob.cells true))).4, Value.int IntKind.i64 (appI (4096 : Int) (2147483647 : Int) (65535 : Int) (16384 : Int) (2147483647 : Int) (Row.mk (List.take (List.length y.3 * (2 : Nat)) (List.drop (0 : Nat) (gC seC y.3))) true (Ob.cells true))).5])) ∧
    ((Value.agg (Array.mk [Value.int IntKind.i64 (appI (4096 : Int) (2147483647 : Int) (65535 : Int) (16384 : Int) (2147483647 : Int) (Row.mk (List.take (List.length y.3 * (2 : Nat)) (List.drop (0 : Nat) (gC seC y.3))) true (Ob.cells true))).1, Value.int IntKind.i64 (appI (4096 : Int) (2147483647 : Int) (65535 : Int) (16384 : Int) (2147483647 : Int) (Row.mk (List.take (List.length y.3 * (2 : Nat)) (List.drop (0 : Nat) (gC seC y.3))) true (Ob.cells true))).2, Value.int IntKind.i64 (appI (4096 : Int) (2147483647 : Int) (65535 : Int) (16384 : Int) (2147483647 : Int) (Row.mk (List.take (List.length y.3 * (2 : Nat)) (List.drop (0 : Nat) (gC seC y.3))) true (Ob.cells true))).3, Value.int IntKind.i64 (appI (4096 : Int) (2147483647 : Int) (65535 : Int) (16384 : Int) (2147483647 : Int) (Row.mk (List.take (List.length y.3 * (2 : Nat)) (List.drop (0 : Nat) (gC seC y.3))) true (Ob.cells true))).4, Value.int IntKind.i64 (appI (4096 : Int) (2147483647 : Int) (65535 : Int) (16384 : Int) (2147483647 : Int) (Row.mk (List.take (List.length y.3 * (2 : Nat)) (List.drop (0 : Nat) (gC seC y.3))) true (Ob.cells true))).5]) = Value.agg (Array.mk [Value.int IntKind.i64 (appI (4096 : Int) (2147483647 : Int) (65535 : Int) (16384 : Int) (2147483647 : Int) (Row.mk (List.take (List.length y.3 * (2 : Nat)) (List.drop (0 : Nat) (gC seC y.3))) true (Ob.cells true))).1, Value.int IntKind.i64 (appI (4096 : Int) (2147483647 : Int) (65535 : Int) (16384 : Int) (2147483647 : Int) (Row.mk (List.take (List.length y.3 * (2 : Nat)) (List.drop (0 : Nat) (gC seC y.3))) true (Ob.cells true))).2, Value.int IntKind.i64 (appI (4096 : Int) (2147483647 : Int) (65535 : Int) (16384 : Int) (2147483647 : Int) (Row.mk (List.take (List.length y.3 * (2 : Nat)) (List.drop (0 : Nat) (gC seC y.3))) true (Ob.cells true))).3, Value.int IntKind.i64 (appI (4096 : Int) (2147483647 : Int) (65535 : Int) (16384 : Int) (2147483647 : Int) (Row.mk (List.take (List.length y.3 * (2 : Nat)) (List.drop (0 : Nat) (gC seC y.3))) true (Ob.cells true))).4, Value.int IntKind.i64 (appI (4096 : Int) (2147483647 : Int) (65535 : Int) (16384 : Int) (2147483647 : Int) (Row.mk (List.take (List.length y.3 * (2 : Nat)) (List.drop (0 : Nat) (gC seC y.3))) true (Ob.cells true))).5])) ∧
    ((true = false) ∧
    ((Eq (α := List Value) (iCells IntKind.i64 vs) (iCells IntKind.i64 g.3)) ∧
    ((Plain (iCells IntKind.i64 vs)) ∧
    ((Eq (α := List Value) (gC seC os) (gC seC g.4)) ∧
    ((Plain (gC seC os)) ∧
    True))))))))
   ((((True ∧ (True ∧ (True ∧ True))) ∧ (True ∧ (within g.1 (0 : Int) (2 : Int) = (1 : Int) ∧ ((0 : Int) = (0 : Int) ∧ ((2 : Int) = (2 : Int) ∧ I64 g.1)))))) ∧
   ((Value.int IntKind.i64 (appI (4096 : Int) (2147483647 : Int) (65535 : Int) (16384 : Int) (2147483647 : Int) (Row.mk (List.take (List.length y.3 * (2 : Nat)) (List.drop (0 : Nat) (gC seC y.3))) true (Ob.cells true))).1 = Value.int IntKind.i64 (appI (4096 : Int) (2147483647 : Int) (65535 : Int) (16384 : Int) (2147483647 : Int) (Row.mk (List.take (List.length y.3 * (2 : Nat)) (List.drop (0 : Nat) (gC seC y.3))) true (Ob.cells true))).1) ∧
   ((Value.int IntKind.i64 (appI (4096 : Int) (2147483647 : Int) (65535 : Int) (16384 : Int) (2147483647 : Int) (Row.mk (List.take (List.length y.3 * (2 : Nat)) (List.drop (0 : Nat) (gC seC y.3))) true (Ob.cells true))).1 = Value.int IntKind.i64 (appI (4096 : Int) (2147483647 : Int) (65535 : Int) (16384 : Int) (2147483647 : Int) (Row.mk (List.take (List.length y.3 * (2 : Nat)) (List.drop (0 : Nat) (gC seC y.3))) true (Ob.cells true))).1) ∧
   ((Value.int IntKind.i64 (appI (4096 : Int) (2147483647 : Int) (65535 : Int) (16384 : Int) (2147483647 : Int) (Row.mk (List.take (List.length y.3 * (2 : Nat)) (List.drop (0 : Nat) (gC seC y.3))) true (Ob.cells true))).2 = Value.int IntKind.i64 (appI (4096 : Int) (2147483647 : Int) (65535 : Int) (16384 : Int) (2147483647 : Int) (Row.mk (List.take (List.length y.3 * (2 : Nat)) (List.drop (0 : Nat) (gC seC y.3))) true (Ob.cells true))).2) ∧
   ((Value.int IntKind.i64 (appI (4096 : Int) (2147483647 : Int) (65535 : Int) (16384 : Int) (2147483647 : Int) (Row.mk (List.take (List.length y.3 * (2 : Nat)) (List.drop (0 : Nat) (gC seC y.3))) true (Ob.cells true))).2 = Value.int IntKind.i64 (appI (4096 : Int) (2147483647 : Int) (65535 : Int) (16384 : Int) (2147483647 : Int) (Row.mk (List.take (List.length y.3 * (2 : Nat)) (List.drop (0 : Nat) (gC seC y.3))) true (Ob.cells true))).2) ∧
   ((Value.int IntKind.i64 (appI (4096 : Int) (2147483647 : Int) (65535 : Int) (16384 : Int) (2147483647 : Int) (Row.mk (List.take (List.length y.3 * (2 : Nat)) (List.drop (0 : Nat) (gC seC y.3))) true (Ob.cells true))).5 = Value.int IntKind.i64 (appI (4096 : Int) (2147483647 : Int) (65535 : Int) (16384 : Int) (2147483647 : Int) (Row.mk (List.take (List.length y.3 * (2 : Nat)) (List.drop (0 : Nat) (gC seC y.3))) true (Ob.cells true))).5) ∧
   ((Value.int IntKind.i64 (appI (4096 : Int) (2147483647 : Int) (65535 : Int) (16384 : Int) (2147483647 : Int) (Row.mk (List.take (List.length y.3 * (2 : Nat)) (List.drop (0 : Nat) (gC seC y.3))) true (Ob.cells true))).5 = Value.int IntKind.i64 (appI (4096 : Int) (2147483647 : Int) (65535 : Int) (16384 : Int) (2147483647 : Int) (Row.mk (List.take (List.length y.3 * (2 : Nat)) (List.drop (0 : Nat) (gC seC y.3))) true (Ob.cells true))).5) ∧
   ((Value.int IntKind.i64 (appI (4096 : Int) (2147483647 : Int) (65535 : Int) (16384 : Int) (2147483647 : Int) (Row.mk (List.take (List.length y.3 * (2 : Nat)) (List.drop (0 : Nat) (gC seC y.3))) true (Ob.cells true))).2 = Value.int IntKind.i64 (appI (4096 : Int) (2147483647 : Int) (65535 : Int) (16384 : Int) (2147483647 : Int) (Row.mk (List.take (List.length y.3 * (2 : Nat)) (List.drop (0 : Nat) (gC seC y.3))) true (Ob.cells true))).2) ∧
   (br ((appI (4096 : Int) (2147483647 : Int) (65535 : Int) (16384 : Int) (2147483647 : Int) (Row.mk (List.take (List.length y.3 * (2 : Nat)) (List.drop (0 : Nat) (gC seC y.3))) true (Ob.cells true))).2 == y.2)
    (br (errI (Row.mk (List.take (List.length y.3 * (2 : Nat)) (List.drop (0 : Nat) (gC seC y.3))) true (Ob.cells true)) == (0 : Int))
     (((True ∧ (True ∧ True))) ∧
     ((true = true) ∧
     ((Eq (α := List Value) (iCells IntKind.i64 vs) (iCells IntKind.i64 g.3)) ∧
     ((Plain (iCells IntKind.i64 vs)) ∧
     ((Eq (α := List Value) (gC seC os) (gC seC g.4)) ∧
     ((Plain (gC seC os)) ∧
     True))))))
     ((true = false) ∧
     ((Eq (α := List Value) (iCells IntKind.i64 vs) (iCells IntKind.i64 g.3)) ∧
     ((Plain (iCells IntKind.i64 vs)) ∧
     ((Eq (α := List Value) (gC seC os) (gC seC g.4)) ∧
     ((Plain (gC seC os)) ∧
     True))))))
    ((true = false) ∧
    ((Eq (α := List Value) (iCells IntKind.i64 vs) (iCells IntKind.i64 g.3)) ∧
    ((Plain (iCells IntKind.i64 vs)) ∧
    ((Eq (α := List Value) (gC seC os) (gC seC g.4)) ∧
    ((Plain (gC seC os)) ∧
    True))))))))))))))))))))))))))))))))))) := by kernel_rfl
theorem last_vc2 (id : Int) (vs : List Int) (os : List Se) : mcall (EL 2) mL 60 8 [.int .i64 id, .slice (some ⟨0, 0, none⟩) vs.length 1, .slice (some ⟨1, 0, none⟩) os.length 2] ⟨mkR (nums 0 [iRo .i64 vs, gRo seC os]), 2⟩ (retIs 2 (.bool true) [iRo .i64 vs, gRo seC os]) =
  ((((True ∧ (True ∧ (True ∧ True))) ∧ (True ∧ (within id (0 : Int) (2 : Int) = (2 : Int) ∧ ((0 : Int) = (0 : Int) ∧ ((2 : Int) = (2 : Int) ∧ I64 id)))))) ∧
  (∃ g : GL, (((g.2 = (1 : Int) ∨ g.2 = (3 : Int) ∨ g.2 = (6 : Int)) ∧ List.length g.3 ≤ (9223372036854775807 : Nat) ∧ ∀ (x : Int), x ∈ GL.vs g → I64 x) ∧
  ((g.1 = id) ∧
  (((0 : Nat) = (0 : Nat)) ∧
  ((List.length g.3 = List.length vs) ∧
  (((0 : Nat) = (0 : Nat)) ∧
  ((List.length g.4 = List.length os) ∧
  ((g.2 = (6 : Int)) ∧
  (((0 : Nat) = (0 : Nat)) ∧
  (((-1 : Int) = (-1 : Int)) ∧
  (((0 : Int) = (0 : Int)) ∧
  ((Eq (α := List Value) (iCells IntKind.i64 g.3) (iCells IntKind.i64 vs)) ∧
  ((Plain (iCells IntKind.i64 g.3)) ∧
  ((Eq (α := List Value) (gC seC g.4) (gC seC os)) ∧
  ((Plain (gC seC g.4)) ∧
  ((Eq (α := List Value) ([]) ([])) ∧
  (∀ (y : SL), ((okL (GL.k g) (SL.w y) (SL.l y) ∧ List.length (SL.l y) ≤ (100 : Nat)) →
  (((((True ∧ (True ∧ (True ∧ (True ∧ (True ∧ True))))) ∧ (((0 : Nat) + List.length y.3 * (2 : Nat) ≤ List.length (gC seC y.3) ∧ Plain (List.take (List.length y.3 * (2 : Nat)) (List.drop (0 : Nat) (gC seC y.3)))) ∧ True)) ∧ (True ∧ (IsSe (Row.mk (List.take (List.length y.3 * (2 : Nat)) (List.drop (0 : Nat) (gC seC y.3))) true (Ob.cells true)) (List.length y.3) ∧ List.length y.3 ≤ (9223372036854775807 : Nat))))) ∧
  (br (decide (y.2 < (0 : Int)))
   (br ((appI (4096 : Int) (2147483647 : Int) (65535 : Int) (16384 : Int) (2147483647 : Int) (Row.mk (List.take (List.length y.3 * (2 : Nat)) (List.drop (0 : Nat) (gC seC y.3))) true (Ob.cells true))).1 == (4096 : Int) && ((appI (4096 : Int) (2147483647 : Int) (65535 : Int) (16384 : Int) (2147483647 : Int) (Row.mk (List.take (List.length y.3 * (2 : Nat)) (List.drop (0 : Nat) (gC seC y.3))) true (Ob.cells true))).2 == (2147483647 : Int) && ((appI (4096 : Int) (2147483647 : Int) (65535 : Int) (16384 : Int) (2147483647 : Int) (Row.mk (List.take (List.length y.3 * (2 : Nat)) (List.drop (0 : Nat) (gC seC y.3))) true (Ob.cells true))).3 == (65535 : Int) && ((appI (4096 : Int) (2147483647 : Int) (65535 : Int) (16384 : Int) (2147483647 : Int) (Row.mk (List.take (List.length y.3 * (2 : Nat)) (List.drop (0 : Nat) (gC seC y.3))) true (Ob.cells true))).4 == (16384 : Int) && ((appI (4096 : Int) (2147483647 : Int) (65535 : Int) (16384 : Int) (2147483647 : Int) (Row.mk (List.take (List.length y.3 * (2 : Nat)) (List.drop (0 : Nat) (gC seC y.3))) true (Ob.cells true))).5 == (2147483647 : Int) && true)))))
    (br (errI (Row.mk (List.take (List.length y.3 * (2 : Nat)) (List.drop (0 : Nat) (gC seC y.3))) true (Ob.cells true)) == (0 : Int))
     (((True ∧ (True ∧ True))) ∧
     ((Value.agg (Array.mk [Value.int IntKind.i64 (appI (4096 : Int) (2147483647 : Int) (65535 : Int) (16384 : Int) (2147483647 : Int) (Row.mk (List.take (List.length y.3 * (2 : Nat)) (List.drop (0 : Nat) (gC seC y.3))) true (Ob.cells true))).1, Value.int IntKind.i64 (appI (4096 : Int) (2147483647 : Int) (65535 : Int) (16384 : Int) (2147483647 : Int) (Row.mk (List.take (List.length y.3 * (2 : Nat)) (List.drop (0 : Nat) (gC seC y.3))) true (Ob.cells true))).2, Value.int IntKind.i64 (appI (4096 : Int) (2147483647 : Int) (65535 : Int) (16384 : Int) (2147483647 : Int) (Row.mk (List.take (List.length y.3 * (2 : Nat)) (List.drop (0 : Nat) (gC seC y.3))) true (Ob.cells true))).3, Value.int IntKind.i64 (appI (4096 : Int) (2147483647 : Int) (65535 : Int) (16384 : Int) (2147483647 : Int) (Row.mk (List.take (List.length y.3 * (2 : Nat)) (List.drop (0 : Nat) (gC seC y.3))) true (Ob.cells true))).4, Value.int IntKind.i64 (appI (4096 : Int) (2147483647 : Int) (65535 : Int) (16384 : Int) (2147483647 : Int) (Row.mk (List.take (List.length y.3 * (2 : Nat)) (List.drop (0 : Nat) (gC seC y.3))) true (Ob.cells true))).5]) = Value.agg (Array.mk [Value.int IntKind.i64 (appI (4096 : Int) (2147483647 : Int) (65535 : Int) (16384 : Int) (2147483647 : Int) (Row.mk (List.take (List.length y.3 * (2 : Nat)) (List.drop (0 : Nat) (gC seC y.3))) true (Ob.cells true))).1, Value.int IntKind.i64 (appI (4096 : Int) (2147483647 : Int) (65535 : Int) (16384 : Int) (2147483647 : Int) (Row.mk (List.take (List.length y.3 * (2 : Nat)) (List.drop (0 : Nat) (gC seC y.3))) true (Ob.cells true))).2, Value.int IntKind.i64 (appI (4096 : Int) (2147483647 : Int) (65535 : Int) (16384 : Int) (2147483647 : Int) (Row.mk (List.take (List.length y.3 * (2 : Nat)) (List.drop (0 : Nat) (gC seC y.3))) true (Ob.cells true))).3, Value.int IntKind.i64 (appI (4096 : Int) (2147483647 : Int) (65535 : Int) (16384 : Int) (2147483647 : Int) (Row.mk (List.take (List.length y.3 * (2 : Nat)) (List.drop (0 : Nat) (gC seC y.3))) true (Ob.cells true))).4, Value.int IntKind.i64 (appI (4096 : Int) (2147483647 : Int) (65535 : Int) (16384 : Int) (2147483647 : Int) (Row.mk (List.take (List.length y.3 * (2 : Nat)) (List.drop (0 : Nat) (gC seC y.3))) true (Ob.cells true))).5])) ∧
     ((Value.agg (Array.mk [Value.int IntKind.i64 (appI (4096 : Int) (2147483647 : Int) (65535 : Int) (16384 : Int) (2147483647 : Int) (Row.mk (List.take (List.length y.3 * (2 : Nat)) (List.drop (0 : Nat) (gC seC y.3))) true (Ob.cells true))).1, Value.int IntKind.i64 (appI (4096 : Int) (2147483647 : Int) (65535 : Int) (16384 : Int) (2147483647 : Int) (Row.mk (List.take (List.length y.3 * (2 : Nat)) (List.drop (0 : Nat) (gC seC y.3))) true (Ob.cells true))).2, Value.int IntKind.i64 (appI (4096 : Int) (2147483647 : Int) (65535 : Int) (16384 : Int) (2147483647 : Int) (Row.mk (List.take (List.length y.3 * (2 : Nat)) (List.drop (0 : Nat) (gC seC y.3))) true (Ob.cells true))).3, Value.int IntKind.i64 (appI (4096 : Int) (2147483647 : Int) (65535 : Int) (16384 : Int) (2147483647 : Int) (Row.mk (List.take (List.length y.3 * (2 : Nat)) (List.drop (0 : Nat) (gC seC y.3))) true (Ob.cells true))).4, Value.int IntKind.i64 (appI (4096 : Int) (2147483647 : Int) (65535 : Int) (16384 : Int) (2147483647 : Int) (Row.mk (List.take (List.length y.3 * (2 : Nat)) (List.drop (0 : Nat) (gC seC y.3))) true (Ob.cells true))).5]) = Value.agg (Array.mk [Value.int IntKind.i64 (appI (4096 : Int) (2147483647 : Int) (65535 : Int) (16384 : Int) (2147483647 : Int) (Row.mk (List.take (List.length y.3 * (2 : Nat)) (List.drop (0 : Nat) (gC seC y.3))) true (Ob.cells true))).1, Value.int IntKind.i64 (appI (4096 : Int) (2147483647 : Int) (65535 : Int) (16384 : Int) (2147483647 : Int) (Row.mk (List.take (List.length y.3 * (2 : Nat)) (List.drop (0 : Nat) (gC seC y.3))) true (Ob.cells true))).2, Value.int IntKind.i64 (appI (4096 : Int) (2147483647 : Int) (65535 : Int) (16384 : Int) (2147483647 : Int) (Row.mk (List.take (List.length y.3 * (2 : Nat)) (List.drop (0 : Nat) (gC seC y.3))) true (Ob.cells true))).3, Value.int IntKind.i64 (appI (4096 : Int) (2147483647 : Int) (65535 : Int) (16384 : Int) (2147483647 : Int) (Row.mk (List.take (List.length y.3 * (2 : Nat)) (List.drop (0 : Nat) (gC seC y.3))) true (Ob.cells true))).4, Value.int IntKind.i64 (appI (4096 : Int) (2147483647 : Int) (65535 : Int) (16384 : Int) (2147483647 : Int) (Row.mk (List.take (List.length y.3 * (2 : Nat)) (List.drop (0 : Nat) (gC seC y.3))) true (Ob.cells true))).5])) ∧
     ((true = true) ∧
     ((Eq (α := List Value) (iCells IntKind.i64 vs) (iCells IntKind.i64 g.3)) ∧
     ((Plain (iCells IntKind.i64 vs)) ∧
     ((Eq (α := List Value) (gC seC os) (gC seC g.4)) ∧
     ((Plain (gC seC os)) ∧
     True))))))))
     ((Value.agg (Array.mk [Value.int IntKind.i64 (appI (4096 : Int) (2147483647 : Int) (65535 : Int) (16384 : Int) (2147483647 : Int) (Row.mk (List.take (List.length y.3 * (2 : Nat)) (List.drop (0 : Nat) (gC seC y.3))) true (Ob.cells true))).1, Value.int IntKind.i64 (appI (4096 : Int) (2147483647 : Int) (65535 : Int) (16384 : Int) (2147483647 : Int) (Row.mk (List.take (List.length y.3 * (2 : Nat)) (List.drop (0 : Nat) (gC seC y.3))) true (Ob.cells true))).2, Value.int IntKind.i64 (appI (4096 : Int) (2147483647 : Int) (65535 : Int) (16384 : Int) (2147483647 : Int) (Row.mk (List.take (List.length y.3 * (2 : Nat)) (List.drop (0 : Nat) (gC seC y.3))) true (Ob.cells true))).3, Value.int IntKind.i64 (appI (4096 : Int) (2147483647 : Int) (65535 : Int) (16384 : Int) (2147483647 : Int) (Row.mk (List.take (List.length y.3 * (2 : Nat)) (List.drop (0 : Nat) (gC seC y.3))) true (Ob.cells true))).4, Value.int IntKind.i64 (appI (4096 : Int) (2147483647 : Int) (65535 : Int) (16384 : Int) (2147483647 : Int) (Row.mk (List.take (List.length y.3 * (2 : Nat)) (List.drop (0 : Nat) (gC seC y.3))) true (Ob.cells true))).5]) = Value.agg (Array.mk [Value.int IntKind.i64 (appI (4096 : Int) (2147483647 : Int) (65535 : Int) (16384 : Int) (2147483647 : Int) (Row.mk (List.take (List.length y.3 * (2 : Nat)) (List.drop (0 : Nat) (gC seC y.3))) true (Ob.cells true))).1, Value.int IntKind.i64 (appI (4096 : Int) (2147483647 : Int) (65535 : Int) (16384 : Int) (2147483647 : Int) (Row.mk (List.take (List.length y.3 * (2 : Nat)) (List.drop (0 : Nat) (gC seC y.3))) true (Ob.cells true))).2, Value.int IntKind.i64 (appI (4096 : Int) (2147483647 : Int) (65535 : Int) (16384 : Int) (2147483647 : Int) (Row.mk (List.take (List.length y.3 * (2 : Nat)) (List.drop (0 : Nat) (gC seC y.3))) true (Ob.cells true))).3, Value.int IntKind.i64 (appI (4096 : Int) (2147483647 : Int) (65535 : Int) (16384 : Int) (2147483647 : Int) (Row.mk (List.take (List.length y.3 * (2 : Nat)) (List.drop (0 : Nat) (gC seC y.3))) true (Ob.cells true))).4, Value.int IntKind.i64 (appI (4096 : Int) (2147483647 : Int) (65535 : Int) (16384 : Int) (2147483647 : Int) (Row.mk (List.take (List.length y.3 * (2 : Nat)) (List.drop (0 : Nat) (gC seC y.3))) true (Ob.cells true))).5])) ∧
     ((Value.agg (Array.mk [Value.int IntKind.i64 (appI (4096 : Int) (2147483647 : Int) (65535 : Int) (16384 : Int) (2147483647 : Int) (Row.mk (List.take (List.length y.3 * (2 : Nat)) (List.drop (0 : Nat) (gC seC y.3))) true (Ob.cells true))).1, Value.int IntKind.i64 (appI (4096 : Int) (2147483647 : Int) (65535 : Int) (16384 : Int) (2147483647 : Int) (Row.mk (List.take (List.length y.3 * (2 : Nat)) (List.drop (0 : Nat) (gC seC y.3))) true (Ob.cells true))).2, Value.int IntKind.i64 (appI (4096 : Int) (2147483647 : Int) (65535 : Int) (16384 : Int) (2147483647 : Int) (Row.mk (List.take (List.length y.3 * (2 : Nat)) (List.drop (0 : Nat) (gC seC y.3))) true (Ob.cells true))).3, Value.int IntKind.i64 (appI (4096 : Int) (2147483647 : Int) (65535 : Int) (16384 : Int) (2147483647 : Int) (Row.mk (List.take (List.length y.3 * (2 : Nat)) (List.drop (0 : Nat) (gC seC y.3))) true (Ob.cells true))).4, Value.int IntKind.i64 (appI (4096 : Int) (2147483647 : Int) (65535 : Int) (16384 : Int) (2147483647 : Int) (Row.mk (List.take (List.length y.3 * (2 : Nat)) (List.drop (0 : Nat) (gC seC y.3))) true (Ob.cells true))).5]) = Value.agg (Array.mk [Value.int IntKind.i64 (appI (4096 : Int) (2147483647 : Int) (65535 : Int) (16384 : Int) (2147483647 : Int) (Row.mk (List.take (List.length y.3 * (2 : Nat)) (List.drop (0 : Nat) (gC seC y.3))) true (Ob.cells true))).1, Value.int IntKind.i64 (appI (4096 : Int) (2147483647 : Int) (65535 : Int) (16384 : Int) (2147483647 : Int) (Row.mk (List.take (List.length y.3 * (2 : Nat)) (List.drop (0 : Nat) (gC seC y.3))) true (Ob.cells true))).2, Value.int IntKind.i64 (appI (4096 : Int) (2147483647 : Int) (65535 : Int) (16384 : Int) (2147483647 : Int) (Row.mk (List.take (List.length y.3 * (2 : Nat)) (List.drop (0 : Nat) (gC seC y.3))) true (Ob.cells true))).3, Value.int IntKind.i64 (appI (4096 : Int) (2147483647 : Int) (65535 : Int) (16384 : Int) (2147483647 : Int) (Row.mk (List.take (List.length y.3 * (2 : Nat)) (List.drop (0 : Nat) (gC seC y.3))) true (Ob.cells true))).4, Value.int IntKind.i64 (appI (4096 : Int) (2147483647 : Int) (65535 : Int) (16384 : Int) (2147483647 : Int) (Row.mk (List.take (List.length y.3 * (2 : Nat)) (List.drop (0 : Nat) (gC seC y.3))) true (Ob.cells true))).5])) ∧
     ((true = false) ∧
     ((Eq (α := List Value) (iCells IntKind.i64 vs) (iCells IntKind.i64 g.3)) ∧
     ((Plain (iCells IntKind.i64 vs)) ∧
     ((Eq (α := List Value) (gC seC os) (gC seC g.4)) ∧
     ((Plain (gC seC os)) ∧
     True))))))))
    ((Value.agg (Array.mk [Value.int IntKind.i64 (appI (4096 : Int) (2147483647 : Int) (65535 : Int) (16384 : Int) (2147483647 : Int) (Row.mk (List.take (List.length y.3 * (2 : Nat)) (List.drop (0 : Nat) (gC seC y.3))) true (Ob.cells true))).1, Value.int IntKind.i64 (appI (4096 : Int) (2147483647 : Int) (65535 : Int) (16384 : Int) (2147483647 : Int) (Row.mk (List.take (List.length y.3 * (2 : Nat)) (List.drop (0 : Nat) (gC seC y.3))) true (Ob.cells true))).2, Value.int IntKind.i64 (appI (4096 : Int) (2147483647 : Int) (65535 : Int) (16384 : Int) (2147483647 : Int) (Row.mk (List.take (List.length y.3 * (2 : Nat)) (List.drop (0 : Nat) (gC seC y.3))) true (Ob.cells true))).3, Value.int IntKind.i64 (appI (4096 : Int) (2147483647 : Int) (65535 : Int) (16384 : Int) (2147483647 : Int) (Row.mk (List.take (List.length y.3 * (2 : Nat)) (List.drop (0 : Nat) (gC seC y.3))) true (Ob.cells true))).4, Value.int IntKind.i64 (appI (4096 : Int) (2147483647 : Int) (65535 : Int) (16384 : Int) (2147483647 : Int) (Row.mk (List.take (List.length y.3 * (2 : Nat)) (List.drop (0 : Nat) (gC seC y.3))) true (Ob.cells true))).5]) = Value.agg (Array.mk [Value.int IntKind.i64 (appI (4096 : Int) (2147483647 : Int) (65535 : Int) (16384 : Int) (2147483647 : Int) (Row.mk (List.take (List.length y.3 * (2 : Nat)) (List.drop (0 : Nat) (gC seC y.3))) true (Ob.cells true))).1, Value.int IntKind.i64 (appI (4096 : Int) (2147483647 : Int) (65535 : Int) (16384 : Int) (2147483647 : Int) (Row.mk (List.take (List.length y.3 * (2 : Nat)) (List.drop (0 : Nat) (gC seC y.3))) true (Ob.cells true))).2, Value.int IntKind.i64 (appI (4096 : Int) (2147483647 : Int) (65535 : Int) (16384 : Int) (2147483647 : Int) (Row.mk (List.take (List.length y.3 * (2 : Nat)) (List.drop (0 : Nat) (gC seC y.3))) true (Ob.cells true))).3, Value.int IntKind.i64 (appI (4096 : Int) (2147483647 : Int) (65535 : Int) (16384 : Int) (2147483647 : Int) (Row.mk (List.take (List.length y.3 * (2 : Nat)) (List.drop (0 : Nat) (gC seC y.3))) true (Ob.cells true))).4, Value.int IntKind.i64 (appI (4096 : Int) (2147483647 : Int) (65535 : Int) (16384 : Int) (2147483647 : Int) (Row.mk (List.take (List.length y.3 * (2 : Nat)) (List.drop (0 : Nat) (gC seC y.3))) true (Ob.cells true))).5])) ∧
    ((Value.agg (Array.mk [Value.int IntKind.i64 (appI (4096 : Int) (2147483647 : Int) (65535 : Int) (16384 : Int) (2147483647 : Int) (Row.mk (List.take (List.length y.3 * (2 : Nat)) (List.drop (0 : Nat) (gC seC y.3))) true (Ob.cells true))).1, Value.int IntKind.i64 (appI (4096 : Int) (2147483647 : Int) (65535 : Int) (16384 : Int) (2147483647 : Int) (Row.mk (List.take (List.length y.3 * (2 : Nat)) (List.drop (0 : Nat) (gC seC y.3))) true (Ob.cells true))).2, Value.int IntKind.i64 (appI (4096 : Int) (2147483647 : Int) (65535 : Int) (16384 : Int) (2147483647 : Int) (Row.mk (List.take (List.length y.3 * (2 : Nat)) (List.drop (0 : Nat) (gC seC y.3))) true (Ob.cells true))).3, Value.int IntKind.i64 (appI (4096 : Int) (2147483647 : Int) (65535 : Int) (16384 : Int) (2147483647 : Int) (Row.mk (List.take (List.length y.3 * (2 : Nat)) (List.drop (0 : Nat) (gC seC y.3))) true (Ob.cells true))).4, Value.int IntKind.i64 (appI (4096 : Int) (2147483647 : Int) (65535 : Int) (16384 : Int) (2147483647 : Int) (Row.mk (List.take (List.length y.3 * (2 : Nat)) (List.drop (0 : Nat) (gC seC y.3))) true (Ob.cells true))).5]) = Value.agg (Array.mk [Value.int IntKind.i64 (appI (4096 : Int) (2147483647 : Int) (65535 : Int) (16384 : Int) (2147483647 : Int) (Row.mk (List.take (List.length y.3 * (2 : Nat)) (List.drop (0 : Nat) (gC seC y.3))) true (Ob.cells true))).1, Value.int IntKind.i64 (appI (4096 : Int) (2147483647 : Int) (65535 : Int) (16384 : Int) (2147483647 : Int) (Row.mk (List.take (List.length y.3 * (2 : Nat)) (List.drop (0 : Nat) (gC seC y.3))) true (Ob.cells true))).2, Value.int IntKind.i64 (appI (4096 : Int) (2147483647 : Int) (65535 : Int) (16384 : Int) (2147483647 : Int) (Row.mk (List.take (List.length y.3 * (2 : Nat)) (List.drop (0 : Nat) (gC seC y.3))) true (Ob.cells true))).3, Value.int IntKind.i64 (appI (4096 : Int) (2147483647 : Int) (65535 : Int) (16384 : Int) (2147483647 : Int) (Row.mk (List.take (List.length y.3 * (2 : Nat)) (List.drop (0 : Nat) (gC seC y.3))) true (Ob.cells true))).4, Value.int IntKind.i64 (appI (4096 : Int) (2147483647 : Int) (65535 : Int) (16384 : Int) (2147483647 : Int) (Row.mk (List.take (List.length y.3 * (2 : Nat)) (List.drop (0 : Nat) (gC seC y.3))) true (Ob.cells true))).5])) ∧
    ((true = false) ∧
    ((Eq (α := List Value) (iCells IntKind.i64 vs) (iCells IntKind.i64 g.3)) ∧
    ((Plain (iCells IntKind.i64 vs)) ∧
    ((Eq (α := List Value) (gC seC os) (gC seC g.4)) ∧
    ((Plain (gC seC os)) ∧
    True))))))))
   ((((True ∧ (True ∧ (True ∧ True))) ∧ (True ∧ (within g.1 (0 : Int) (2 : Int) = (2 : Int) ∧ ((0 : Int) = (0 : Int) ∧ ((2 : Int) = (2 : Int) ∧ I64 g.1)))))) ∧
   ((Value.int IntKind.i64 (appI (4096 : Int) (2147483647 : Int) (65535 : Int) (16384 : Int) (2147483647 : Int) (Row.mk (List.take (List.length y.3 * (2 : Nat)) (List.drop (0 : Nat) (gC seC y.3))) true (Ob.cells true))).1 = Value.int IntKind.i64 (appI (4096 : Int) (2147483647 : Int) (65535 : Int) (16384 : Int) (2147483647 : Int) (Row.mk (List.take (List.length y.3 * (2 : Nat)) (List.drop (0 : Nat) (gC seC y.3))) true (Ob.cells true))).1) ∧
   ((Value.int IntKind.i64 (appI (4096 : Int) (2147483647 : Int) (65535 : Int) (16384 : Int) (2147483647 : Int) (Row.mk (List.take (List.length y.3 * (2 : Nat)) (List.drop (0 : Nat) (gC seC y.3))) true (Ob.cells true))).1 = Value.int IntKind.i64 (appI (4096 : Int) (2147483647 : Int) (65535 : Int) (16384 : Int) (2147483647 : Int) (Row.mk (List.take (List.length y.3 * (2 : Nat)) (List.drop (0 : Nat) (gC seC y.3))) true (Ob.cells true))).1) ∧
   ((Value.int IntKind.i64 (appI (4096 : Int) (2147483647 : Int) (65535 : Int) (16384 : Int) (2147483647 : Int) (Row.mk (List.take (List.length y.3 * (2 : Nat)) (List.drop (0 : Nat) (gC seC y.3))) true (Ob.cells true))).2 = Value.int IntKind.i64 (appI (4096 : Int) (2147483647 : Int) (65535 : Int) (16384 : Int) (2147483647 : Int) (Row.mk (List.take (List.length y.3 * (2 : Nat)) (List.drop (0 : Nat) (gC seC y.3))) true (Ob.cells true))).2) ∧
   ((Value.int IntKind.i64 (appI (4096 : Int) (2147483647 : Int) (65535 : Int) (16384 : Int) (2147483647 : Int) (Row.mk (List.take (List.length y.3 * (2 : Nat)) (List.drop (0 : Nat) (gC seC y.3))) true (Ob.cells true))).2 = Value.int IntKind.i64 (appI (4096 : Int) (2147483647 : Int) (65535 : Int) (16384 : Int) (2147483647 : Int) (Row.mk (List.take (List.length y.3 * (2 : Nat)) (List.drop (0 : Nat) (gC seC y.3))) true (Ob.cells true))).2) ∧
   ((Value.int IntKind.i64 (appI (4096 : Int) (2147483647 : Int) (65535 : Int) (16384 : Int) (2147483647 : Int) (Row.mk (List.take (List.length y.3 * (2 : Nat)) (List.drop (0 : Nat) (gC seC y.3))) true (Ob.cells true))).5 = Value.int IntKind.i64 (appI (4096 : Int) (2147483647 : Int) (65535 : Int) (16384 : Int) (2147483647 : Int) (Row.mk (List.take (List.length y.3 * (2 : Nat)) (List.drop (0 : Nat) (gC seC y.3))) true (Ob.cells true))).5) ∧
   ((Value.int IntKind.i64 (appI (4096 : Int) (2147483647 : Int) (65535 : Int) (16384 : Int) (2147483647 : Int) (Row.mk (List.take (List.length y.3 * (2 : Nat)) (List.drop (0 : Nat) (gC seC y.3))) true (Ob.cells true))).5 = Value.int IntKind.i64 (appI (4096 : Int) (2147483647 : Int) (65535 : Int) (16384 : Int) (2147483647 : Int) (Row.mk (List.take (List.length y.3 * (2 : Nat)) (List.drop (0 : Nat) (gC seC y.3))) true (Ob.cells true))).5) ∧
   ((Value.int IntKind.i64 (appI (4096 : Int) (2147483647 : Int) (65535 : Int) (16384 : Int) (2147483647 : Int) (Row.mk (List.take (List.length y.3 * (2 : Nat)) (List.drop (0 : Nat) (gC seC y.3))) true (Ob.cells true))).5 = Value.int IntKind.i64 (appI (4096 : Int) (2147483647 : Int) (65535 : Int) (16384 : Int) (2147483647 : Int) (Row.mk (List.take (List.length y.3 * (2 : Nat)) (List.drop (0 : Nat) (gC seC y.3))) true (Ob.cells true))).5) ∧
   (br ((appI (4096 : Int) (2147483647 : Int) (65535 : Int) (16384 : Int) (2147483647 : Int) (Row.mk (List.take (List.length y.3 * (2 : Nat)) (List.drop (0 : Nat) (gC seC y.3))) true (Ob.cells true))).5 == y.2)
    (br (errI (Row.mk (List.take (List.length y.3 * (2 : Nat)) (List.drop (0 : Nat) (gC seC y.3))) true (Ob.cells true)) == (0 : Int))
     (((True ∧ (True ∧ True))) ∧
     ((true = true) ∧
     ((Eq (α := List Value) (iCells IntKind.i64 vs) (iCells IntKind.i64 g.3)) ∧
     ((Plain (iCells IntKind.i64 vs)) ∧
     ((Eq (α := List Value) (gC seC os) (gC seC g.4)) ∧
     ((Plain (gC seC os)) ∧
     True))))))
     ((true = false) ∧
     ((Eq (α := List Value) (iCells IntKind.i64 vs) (iCells IntKind.i64 g.3)) ∧
     ((Plain (iCells IntKind.i64 vs)) ∧
     ((Eq (α := List Value) (gC seC os) (gC seC g.4)) ∧
     ((Plain (gC seC os)) ∧
     True))))))
    ((true = false) ∧
    ((Eq (α := List Value) (iCells IntKind.i64 vs) (iCells IntKind.i64 g.3)) ∧
    ((Plain (iCells IntKind.i64 vs)) ∧
    ((Eq (α := List Value) (gC seC os) (gC seC g.4)) ∧
    ((Plain (gC seC os)) ∧
    True))))))))))))))))))))))))))))))))))) := by kernel_rfl
theorem within_con (n lo hi : Int) (hn : I64 n) (hl : -1000000000000 ≤ lo) (hh : hi ≤ 1000000000000) (h : lo ≤ hi) : Con Try.prog 18 [.int .i64 n, .int .i64 lo, .int .i64 hi] [] (.int .i64 (inside n lo hi)) [] := by
  refine con_vc (E := E0) mixed (calls_envN _) (lok_envN _) (M := noM) lm_none (within_vc n lo hi _) ?_
  have w1 : IntKind.i64.wrap (hi - lo) = hi - lo := wr64_id (by unfold I64; omega)
  have w2 : IntKind.i64.wrap (hi - lo + 1) = hi - lo + 1 := wr64_id (by unfold I64; omega)
  obtain ⟨k1, k2⟩ := within_eq n (hi - lo + 1) (by omega)
  have k3 := Int.emod_nonneg n (by omega : hi - lo + 1 ≠ 0)
  have k4 := Int.emod_lt_of_pos n (by omega : 0 < hi - lo + 1)
  have k5 : n.tmod (hi - lo + 1) < hi - lo + 1 := Int.tmod_lt_of_pos n (by omega)
  have k6 : -(hi - lo + 1) < n.tmod (hi - lo + 1) := Int.lt_tmod_of_pos n (by omega)
  unfold inside within
  simp only [ofNat_eq, toNat_cast, Nat.zero_add, Nat.add_zero, Nat.mul_one, List.drop_zero, bCells_len, bCells_drop, bCells_take, bCells_app, bCells_one, bCells_plain, List.length_replicate, List.length_append, List.length_take, List.length_drop, List.take_length, and_true, true_and, and_self, decide_true, List.length_nil, List.length_cons, Nat.sub_zero, dB_mk, dB_ro, List.take_zero, w1, w2]
  refine br_b (by simp; omega) (br_if (fun h => ?_) (fun h => ?_))
  · have := k1 h
    rw [wr64_id (n := n.tmod (hi - lo + 1) + hi) (by unfold I64; omega), wr64_id (n := n.tmod (hi - lo + 1) + hi - lo) (by unfold I64; omega), wr64_id (n := n.tmod (hi - lo + 1) + hi - lo + 1) (by unfold I64; omega), wr64_id (by unfold I64; omega)]
    omega
  · have := k2 (by omega)
    rw [wr64_id (by unfold I64; omega)]
    omega
theorem cL_ok (K : Int) : ∀ f a rows p v news, cL K f a rows = some (p, v, news) → p → Con Try.prog f a rows v (rows ++ news) := by
  intro f a rows p v news h hp
  have e : ∀ l, dSe (gRo seC l) = l := fun l => s11b.dSe_mk _ _ _
  unfold cL at h
  split at h
  · rename_i n lo hi
    cases hb : (hi == 2) with
    | true =>
      rw [hb] at h
      simp only [cond_true, Option.some.injEq, Prod.mk.injEq] at h
      obtain ⟨rfl, rfl, rfl⟩ := h
      obtain ⟨rfl, rfl, rfl, h1⟩ := hp
      exact within_con n 0 2 h1 (by omega) (by omega) (by omega)
    | false =>
      rw [hb] at h
      simp only [cond_false, Option.some.injEq, Prod.mk.injEq] at h
      obtain ⟨rfl, rfl, rfl⟩ := h
      obtain ⟨h1, rfl, rfl⟩ := hp
      exact within_con n 0 2147483647 h1 (by omega) (by omega) (by omega)
  all_goals simp only [Option.some.injEq, Prod.mk.injEq, reduceCtorEq] at h <;> obtain ⟨rfl, rfl, rfl⟩ := h
  · obtain ⟨⟨l, rfl, rfl⟩, hl⟩ := hp
    simp only [appI, errI, e, List.append_nil]
    exact app_con ⟨_, _, _, _, _⟩ l hl
  · exact value_con ⟨_, _⟩
  · exact con_run mixed (n := 1000000) (by kernel_rfl) (by kernel_rfl)
theorem ok_one {k w0 w : Int} {l : List Se} (hk : k = 1 ∨ k = 3 ∨ k = 6) (hw : 0 ≤ w ∧ w ≤ 2147483647) (h : okL k w0 l) : okL k w (l ++ [⟨k, w⟩]) := by
  obtain ⟨h1, h2, h3⟩ := h
  have hv : vl ⟨k, w⟩ = 0 := by rw [vl_eq]; unfold valI; simp only; grind
  refine ⟨?_, fun h => by omega, fun _ => ?_⟩
  · rw [err_app, if_pos h1, errL, if_pos hv, errL]
  · rw [fin_app, finL, finL, put_eq]
    unfold fld putE clI
    simp only
    grind
theorem ok_two {k w : Int} {l : List Se} {s : Se} (hs : s.i ≠ k) (hv : vl s = 0) (hw : 0 ≤ w) (hk : k = 1 ∨ k = 3 ∨ k = 6) (h : okL k w l) : okL k w (l ++ [s]) := by
  obtain ⟨h1, h2, h3⟩ := h
  refine ⟨?_, fun h => by omega, fun _ => ?_⟩
  · rw [err_app, if_pos h1, errL, if_pos hv, errL]
  · rw [fin_app, finL, finL, put_eq, ← h3 hw]
    unfold fld putE
    simp only
    grind
theorem se_one (a b : Int) : [Value.int .i64 a, Value.int .i64 b] = gC seC [⟨a, b⟩] := rfl
theorem l_piece (K : Int) : PieceOk (EL K) 2 (8, pL, specL) := by
  refine piece_loop mixed (calls_envC (cL_ok K)) (lok_envC _ _ _) lm_none (n := 60) (by kernel_rfl) (fun g : GL => (⟨0, -1, []⟩ : SL)) (fun g s => okL g.k s.w s.l ∧ s.l.length ≤ 2 * s.i ∧ s.i ≤ 20) (fun g s => 20 - s.i) (sl := slL) (rl := rlL) (fun g hg => ⟨⟨rfl, fun _ => rfl, fun h => by simp at h⟩, by simp, by simp⟩) (fun g s hg hi => ?_)
  refine (l_round K g s _ _).mpr ?_
  obtain ⟨i, w, l⟩ := s
  obtain ⟨id, k, vs, os⟩ := g
  obtain ⟨hk, hv1, hv2⟩ := hg
  obtain ⟨h1, h2, h3⟩ := hi
  have hm : maxLen = 9223372036854775807 := by unfold maxLen; rfl
  simp only at h1 h2 h3 hk hv1 hv2
  have tl : ∀ l : List Se, (gC seC l).take (l.length * 2) = gC seC l := fun l => List.take_of_length_le (by rw [s11b.seL]; omega)
  have tl1 : ∀ (l : List Se) (a : Se), (gC seC (l ++ [a])).take ((l.length + 1) * 2) = gC seC (l ++ [a]) := fun l a => List.take_of_length_le (by rw [s11b.seL]; simp)
  simp only [ofNat_eq, toNat_cast, Nat.zero_add, Nat.add_zero, Nat.mul_one, List.drop_zero, bCells_len, bCells_drop, bCells_take, bCells_app, bCells_one, bCells_plain, List.length_replicate, List.length_append, List.length_take, List.length_drop, List.take_length, and_true, true_and, and_self, decide_true, List.length_nil, List.length_cons, Nat.sub_zero, dB_mk, dB_ro, List.take_zero, s11b.sePl, s11b.seL, iCells_plain, se_one, tl, gC_app, tl1]
  have wi := i64_succ (show i < 9223372036854775807 by omega)
  refine br_if (fun h => br_if (fun h' => br_dec (by omega) ?_) (fun h' => ⟨⟨i, w, l⟩, ⟨h1, by simp only; omega⟩, rfl, rfl, rfl⟩)) (fun h => ⟨⟨i, w, l⟩, ⟨h1, by simp only; omega⟩, rfl, rfl, rfl⟩)
  have hi : i < vs.length := by omega
  have c1 := iCells_get (k := .i64) hi
  have c2 := iCells_cell (k := .i64) hi
  have hb : I64 (vs.getD i 0) := hv2 _ (by simp [List.getD, List.getElem?_eq_getElem hi])
  have hw := within_bd (vs.getD i 0) 0 2147483647 (by omega)
  have s1 := ok_one (w := inside (vs.getD i 0) 0 2147483647) hk hw h1
  simp only [c1, c2, wi, true_and]
  refine ⟨hb, br_dec (by omega) (br_dec (by omega) (br_if (fun h5 => br_dec (by omega) ?_) (fun h5 => ?_)))⟩
  · obtain ⟨d1, d2, d3, d4⟩ := s11b.seGet os i (by omega)
    simp only [d1, d2, d3, d4, true_and]
    refine br_intro (fun h6 => br_dec (by omega) (br_intro (fun h7 => br_dec (by omega) (br_dec (by omega) (br_dec (by simp) ?_))) (fun h7 => ?_))) (fun h6 => ?_)
    · exact ⟨⟨i + 1, _, _⟩, ⟨ok_two (s := os[i]) (by simpa using h6) (by simpa [vlI] using h7) hw.1 hk s1, by simp; omega, by simp only; omega⟩, by simp only; omega, by simp, rfl, rfl, rfl⟩
    · exact ⟨⟨i + 1, _, _⟩, ⟨s1, by simp; omega, by simp only; omega⟩, by simp only; omega, by simp, rfl, rfl, rfl⟩
    · exact ⟨⟨i + 1, _, _⟩, ⟨s1, by simp; omega, by simp only; omega⟩, by simp only; omega, by simp, rfl, rfl, rfl⟩
  · exact ⟨⟨i + 1, _, _⟩, ⟨s1, by simp; omega, by simp only; omega⟩, by simp only; omega, by simp, rfl, rfl, rfl⟩
theorem last_law (id : Int) (vs : List Int) (os : List Se) (hid : I64 id) (hv : vs.length ≤ maxLen) (hvs : ∀ x ∈ vs, (Lit.int .i64 x).wf = true) (ho : os.length ≤ maxLen) (_ : ∀ s ∈ os, True) :
    Con Try.prog 8 [.int .i64 id, .slice (some ⟨0, 0, none⟩) vs.length 1, .slice (some ⟨1, 0, none⟩) os.length 2] [iRo .i64 vs, gRo seC os] (.bool true) [iRo .i64 vs, gRo seC os] := by
  have hb := within_bd id 0 2 (by omega)
  have hvs' : ∀ x ∈ vs, I64 x := fun x hx => Sy.wf64 (hvs x hx)
  have tl : ∀ l : List Se, (gC seC l).take (l.length * 2) = gC seC l := fun l => List.take_of_length_le (by rw [s11b.seL]; omega)
  have e : ∀ l b o, dSe ⟨gC seC l, b, o⟩ = l := fun l b o => s11b.dSe_mk _ _ _
  have hi : ∀ l n, n = l.length → IsSe ⟨gC seC l, true, .cells true⟩ n := fun l n h => ⟨l, rfl, h⟩
  have ap : ∀ r, appI 4096 2147483647 65535 16384 2147483647 r = appSt first (dSe r) := fun r => rfl
  have hm : maxLen = 9223372036854775807 := by unfold maxLen; rfl
  have hc : within id 0 2 = 0 ∨ within id 0 2 = 1 ∨ within id 0 2 = 2 := by omega
  have fin : ∀ (k w : Int) (l : List Se), okL k w l → appSt first l = finL first l := fun k w l h => if_pos h.1
  rcases hc with hc | hc | hc
  · refine con_vc (E := EL 0) mixed (calls_envC (cL_ok 0)) (lok_envC _ _ _) (M := mL) (lm_one (l_piece 0)) (last_vc0 id vs os) ?_
    simp only [ofNat_eq, toNat_cast, Nat.zero_add, Nat.add_zero, Nat.mul_one, List.drop_zero, bCells_len, bCells_drop, bCells_take, bCells_app, bCells_one, bCells_plain, List.length_replicate, List.length_append, List.length_take, List.length_drop, List.take_length, and_true, true_and, and_self, decide_true, List.length_nil, List.length_cons, Nat.sub_zero, dB_mk, dB_ro, List.take_zero, s11b.sePl, s11b.seL, iCells_plain, tl, e, errI, ap]
    refine ⟨⟨hc, hid⟩, ⟨id, 1, vs, os⟩, ⟨.inl rfl, by simp only; omega, hvs'⟩, rfl, rfl, rfl, rfl, rfl, rfl, fun s hs => ⟨⟨Nat.le_refl _, hi _ _ rfl, by omega⟩, br_if (fun h => ?_) (fun h => ⟨⟨hc, hid⟩, ?_⟩)⟩⟩
    · rw [hs.1.2.1 h]; exact br_b rfl (br_b rfl ⟨rfl, rfl⟩)
    · rw [fin _ _ _ hs.1]
      have h3 := hs.1.2.2 (by omega)
      exact br_b (by rw [← h3]; simp [fld]) (br_b (by rw [hs.1.1]; rfl) ⟨rfl, rfl⟩)
  · refine con_vc (E := EL 1) mixed (calls_envC (cL_ok 1)) (lok_envC _ _ _) (M := mL) (lm_one (l_piece 1)) (last_vc1 id vs os) ?_
    simp only [ofNat_eq, toNat_cast, Nat.zero_add, Nat.add_zero, Nat.mul_one, List.drop_zero, bCells_len, bCells_drop, bCells_take, bCells_app, bCells_one, bCells_plain, List.length_replicate, List.length_append, List.length_take, List.length_drop, List.take_length, and_true, true_and, and_self, decide_true, List.length_nil, List.length_cons, Nat.sub_zero, dB_mk, dB_ro, List.take_zero, s11b.sePl, s11b.seL, iCells_plain, tl, e, errI, ap]
    refine ⟨⟨hc, hid⟩, ⟨id, 3, vs, os⟩, ⟨.inr (.inl rfl), by simp only; omega, hvs'⟩, rfl, rfl, rfl, rfl, rfl, rfl, fun s hs => ⟨⟨Nat.le_refl _, hi _ _ rfl, by omega⟩, br_if (fun h => ?_) (fun h => ⟨⟨hc, hid⟩, ?_⟩)⟩⟩
    · rw [hs.1.2.1 h]; exact br_b rfl (br_b rfl ⟨rfl, rfl⟩)
    · rw [fin _ _ _ hs.1]
      have h3 := hs.1.2.2 (by omega)
      exact br_b (by rw [← h3]; simp [fld]) (br_b (by rw [hs.1.1]; rfl) ⟨rfl, rfl⟩)
  · refine con_vc (E := EL 2) mixed (calls_envC (cL_ok 2)) (lok_envC _ _ _) (M := mL) (lm_one (l_piece 2)) (last_vc2 id vs os) ?_
    simp only [ofNat_eq, toNat_cast, Nat.zero_add, Nat.add_zero, Nat.mul_one, List.drop_zero, bCells_len, bCells_drop, bCells_take, bCells_app, bCells_one, bCells_plain, List.length_replicate, List.length_append, List.length_take, List.length_drop, List.take_length, and_true, true_and, and_self, decide_true, List.length_nil, List.length_cons, Nat.sub_zero, dB_mk, dB_ro, List.take_zero, s11b.sePl, s11b.seL, iCells_plain, tl, e, errI, ap]
    refine ⟨⟨hc, hid⟩, ⟨id, 6, vs, os⟩, ⟨.inr (.inr rfl), by simp only; omega, hvs'⟩, rfl, rfl, rfl, rfl, rfl, rfl, fun s hs => ⟨⟨Nat.le_refl _, hi _ _ rfl, by omega⟩, br_if (fun h => ?_) (fun h => ⟨⟨hc, hid⟩, ?_⟩)⟩⟩
    · rw [hs.1.2.1 h]; exact br_b rfl (br_b rfl ⟨rfl, rfl⟩)
    · rw [fin _ _ _ hs.1]
      have h3 := hs.1.2.2 (by omega)
      exact br_b (by rw [← h3]; simp [fld]) (br_b (by rw [hs.1.1]; rfl) ⟨rfl, rfl⟩)
end Go.Proofs.Ytocehonfnpjcjaa.s11
