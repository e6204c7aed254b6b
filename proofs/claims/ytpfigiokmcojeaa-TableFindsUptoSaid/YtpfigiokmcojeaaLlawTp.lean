/- The law: any calls of a table: each answers, and the table is, what the document says. -/
import Derived.Test.YtpfigiokmcojeaaSz9
import Derived.Test.YtpfigiokmcojeaaRows
import Derived.Test.YtpfigiokmcojeaaLlawTf
import Derived.Test.YtpfigiokmcojeaaLrfB
set_option linter.unusedSimpArgs false
set_option linter.unusedVariables false
namespace Go.Proofs.Ytpfigiokmcojeaa.tb
open Go Go.Ev Go.Sy Go.RowKit Go.Proofs.Ytpfigiokmcojeaa.gl Go.Proofs.Ytpfigiokmcojeaa.tk
def pP1 : List Nat := [0, 1, 0, 1, 1, 1, 1]
def pP2 : List Nat := [0, 1, 1, 1, 1, 1, 0, 0, 1, 0, 0, 1, 0, 1, 1, 1, 1]
structure GP2 where
  l : List Asx
  i : Nat
  t : Tb
noncomputable def rlP (l : List Asx) (t : Tb) : List (Nat × Row) := [(0, gRo enA l), (1, ⟨[.slice (some ⟨3, 0, none⟩) t.l.length 2, .int .i64 (smZ t.l t.l.length : Nat), .int .i64 t.most], false, .cells false⟩), (2, ⟨[.slice (some ⟨4, 0, none⟩) t.l.length 2, .int .i64 t.most], false, .cells false⟩), (3, gOwn enF (t.l ++ t.j)), (4, gOwn enF (t.l ++ t.j))]
noncomputable def slP (l : List Asx) (i : Nat) : List (Nat × Value) := [(1, .slice (some ⟨0, 0, none⟩) l.length 4), (5, .pointer (some ⟨1, 0, none⟩)), (7, .pointer (some ⟨2, 0, none⟩)), (9, .int .i64 (i : Nat))]
noncomputable def slN (l : List Asx) (i : Nat) : List (Nat × Value) := [(1, .slice (some ⟨0, 0, none⟩) l.length 4), (5, .pointer none), (7, .pointer none), (9, .int .i64 (i : Nat))]
noncomputable def wsP (l : List Asx) : List (Gate Unit) := [⟨.exit 0, fun _ => True, fun _ => [(1, .slice (some ⟨0, 0, none⟩) l.length 4)], fun _ => [(0, gRo enA l)], 5⟩]
noncomputable def specP1 : Sy.Spec := specOf 1 5 195 (fun g : GTw => (∀ a ∈ g.l, (I64 a.k ∧ I64 a.n) ∧ a.f.n.length ≤ 1048576 ∧ a.f.v.length ≤ 1048576) ∧ 0 ≤ g.m ∧ g.m ≤ 65536) (fun g => slP g.l 0) (fun g => rlP g.l ⟨[], [], g.m⟩) (fun g => wsP g.l)
noncomputable def specPN : Sy.Spec := specOf 1 5 195 (fun _ : List Asx => True) (fun g => slN g 0) (fun g => [(0, gRo enA g)]) wsP
noncomputable def specP : Sy.Spec := fun fr u h K => match fr.tm.find 5 with
  | some (.pointer none) => specPN fr u h K
  | _ => specP1 fr u h K
noncomputable def slP2 (g : GP2) (k : Nat) : List (Nat × Value) := slP g.l g.i ++ [(19, .int .i64 (k : Nat))]
noncomputable def wsP2 (g : GP2) : List (Gate Unit) := [⟨.exit 3, fun _ => True, fun _ => slP g.l g.i, fun _ => rlP g.l g.t, 5⟩]
noncomputable def specP2 : Sy.Spec := specOf 1 5 195 (fun g : GP2 => Ok g.t) (fun g => slP2 g 0) (fun g => rlP g.l g.t) wsP2
noncomputable def mP1 := mOf [(4, pP1, specP)]
noncomputable def mP2 := mOf [(4, pP2, specP2)]
noncomputable def tPl : List EntM := [eRunsT, eAddT, eResT, eGetT, eFndT, eAddR, eResR, eGetR, eFndR, eSzR]
noncomputable abbrev EtPl : Env := envT Try.prog tPl
theorem P2_round (g : GP2) (k : Nat) (Inv : Nat → Prop) (m : Nat → Nat) : mev EtPl noM 60 4 (0 :: pP2) false (codeOf Try.prog 4 (0 :: pP2)) ⟨mkOv (slP2 g k), 195, []⟩ none ⟨mkR (rlP g.l g.t), 5⟩ (roundK 1 5 195 Inv m (slP2 g) (fun _ => rlP g.l g.t) (wsP2 g) k) =
  (br (decide ((↑k : Int) < Int.ofNat (List.length g.3.1)))
   ((((True ∧ (True ∧ True)) ∧ (((True ∧ (True ∧ (True ∧ True))) ∧ (Plain (gC enF (g.3.1 ++ g.3.2)) ∧ True)) ∧ ((Plain (gC enF (g.3.1 ++ g.3.2)) ∧ True) ∧ (IsTg (Row.mk (gC enF (g.3.1 ++ g.3.2)) false (Ob.cells true)) (List.length g.3.1) ∧ I64 (IntKind.wrap IntKind.i64 ((62 : Int) + (↑k : Int)))))))) ∧
   (br (!gfK (Row.mk (gC enF (g.3.1 ++ g.3.2)) false (Ob.cells true)) (List.length g.3.1) (IntKind.wrap IntKind.i64 ((62 : Int) + (↑k : Int))))
    False
    (br (decide ((0 : Int) ≤ (↑k : Int) ∧ (↑k : Int) < (↑(List.length g.3.1) : Int)))
     ((Eq (α := Option Value) ((gC enF (g.3.1 ++ g.3.2))[(0 : Nat) + Int.toNat (↑k : Int) * (2 : Nat)]?) (some (Value.string (cellS (gC enF (g.3.1 ++ g.3.2)) ((0 : Nat) + Int.toNat (↑k : Int) * (2 : Nat)))))) ∧
     ((Eq (α := Option Value) ((gC enF (g.3.1 ++ g.3.2))[(0 : Nat) + Int.toNat (↑k : Int) * (2 : Nat) + (1 : Nat)]?) (some (Value.string (cellS (gC enF (g.3.1 ++ g.3.2)) ((0 : Nat) + Int.toNat (↑k : Int) * (2 : Nat) + (1 : Nat)))))) ∧
     ((Value.agg (Array.mk [Value.string (gfA (Row.mk (gC enF (g.3.1 ++ g.3.2)) false (Ob.cells true)) (List.length g.3.1) (IntKind.wrap IntKind.i64 ((62 : Int) + (↑k : Int)))), Value.string (gfB (Row.mk (gC enF (g.3.1 ++ g.3.2)) false (Ob.cells true)) (List.length g.3.1) (IntKind.wrap IntKind.i64 ((62 : Int) + (↑k : Int))))]) = Value.agg (Array.mk [Value.string (gfA (Row.mk (gC enF (g.3.1 ++ g.3.2)) false (Ob.cells true)) (List.length g.3.1) (IntKind.wrap IntKind.i64 ((62 : Int) + (↑k : Int)))), Value.string (gfB (Row.mk (gC enF (g.3.1 ++ g.3.2)) false (Ob.cells true)) (List.length g.3.1) (IntKind.wrap IntKind.i64 ((62 : Int) + (↑k : Int))))])) ∧
     ((Value.slice (some (Addr.mk (4 : Nat) (0 : Nat) none)) (List.length g.3.1) (2 : Nat) = Value.slice (some (Addr.mk (4 : Nat) (0 : Nat) none)) (List.length g.3.1) (2 : Nat)) ∧
     ((Eq (α := Option Value) ((gC enF (g.3.1 ++ g.3.2))[(0 : Nat) + Int.toNat (↑k : Int) * (2 : Nat)]?) (some (Value.string (cellS (gC enF (g.3.1 ++ g.3.2)) ((0 : Nat) + Int.toNat (↑k : Int) * (2 : Nat)))))) ∧
     ((Eq (α := Option Value) ((gC enF (g.3.1 ++ g.3.2))[(0 : Nat) + Int.toNat (↑k : Int) * (2 : Nat) + (1 : Nat)]?) (some (Value.string (cellS (gC enF (g.3.1 ++ g.3.2)) ((0 : Nat) + Int.toNat (↑k : Int) * (2 : Nat) + (1 : Nat)))))) ∧
     ((Value.agg (Array.mk [Value.string (cellS (gC enF (g.3.1 ++ g.3.2)) ((0 : Nat) + Int.toNat (↑k : Int) * (2 : Nat))), Value.string (cellS (gC enF (g.3.1 ++ g.3.2)) ((0 : Nat) + Int.toNat (↑k : Int) * (2 : Nat) + (1 : Nat)))]) = Value.agg (Array.mk [Value.string (cellS (gC enF (g.3.1 ++ g.3.2)) ((0 : Nat) + Int.toNat (↑k : Int) * (2 : Nat))), Value.string (cellS (gC enF (g.3.1 ++ g.3.2)) ((0 : Nat) + Int.toNat (↑k : Int) * (2 : Nat) + (1 : Nat)))])) ∧
     (br (!(gfA (Row.mk (gC enF (g.3.1 ++ g.3.2)) false (Ob.cells true)) (List.length g.3.1) (IntKind.wrap IntKind.i64 ((62 : Int) + (↑k : Int))) == cellS (gC enF (g.3.1 ++ g.3.2)) ((0 : Nat) + Int.toNat (↑k : Int) * (2 : Nat)) && (gfB (Row.mk (gC enF (g.3.1 ++ g.3.2)) false (Ob.cells true)) (List.length g.3.1) (IntKind.wrap IntKind.i64 ((62 : Int) + (↑k : Int))) == cellS (gC enF (g.3.1 ++ g.3.2)) ((0 : Nat) + Int.toNat (↑k : Int) * (2 : Nat) + (1 : Nat)) && true)))
      False
      (∃ j : Nat, ((Inv j) ∧
      ((m j < m k) ∧
      (((0 : Nat) = (0 : Nat)) ∧
      ((List.length g.1 = List.length g.1) ∧
      (((0 : Nat) = (0 : Nat)) ∧
      (((0 : Nat) = (0 : Nat)) ∧
      (((↑g.2 : Int) = (↑g.2 : Int)) ∧
      (((↑j : Int) = IntKind.wrap IntKind.i64 ((↑k : Int) + (1 : Int))) ∧
      ((Eq (α := List Value) (gC enA g.1) (gC enA g.1)) ∧
      ((Plain (gC enA g.1)) ∧
      (((0 : Nat) = (0 : Nat)) ∧
      ((List.length g.3.1 = List.length g.3.1) ∧
      (((↑(smZ g.3.1 (List.length g.3.1)) : Int) = (↑(smZ g.3.1 (List.length g.3.1)) : Int)) ∧
      ((g.3.3 = g.3.3) ∧
      (((0 : Nat) = (0 : Nat)) ∧
      ((List.length g.3.1 = List.length g.3.1) ∧
      ((g.3.3 = g.3.3) ∧
      ((Eq (α := List Value) (gC enF (g.3.1 ++ g.3.2)) (gC enF (g.3.1 ++ g.3.2))) ∧
      ((Plain (gC enF (g.3.1 ++ g.3.2))) ∧
      ((Eq (α := List Value) (gC enF (g.3.1 ++ g.3.2)) (gC enF (g.3.1 ++ g.3.2))) ∧
      ((Plain (gC enF (g.3.1 ++ g.3.2))) ∧
      True))))))))))))))))))))))))))))))
     False)))
   (∃ y : Unit, ((True) ∧
   (((0 : Nat) = (0 : Nat)) ∧
   ((List.length g.1 = List.length g.1) ∧
   (((0 : Nat) = (0 : Nat)) ∧
   (((0 : Nat) = (0 : Nat)) ∧
   (((↑g.2 : Int) = (↑g.2 : Int)) ∧
   ((Eq (α := List Value) (gC enA g.1) (gC enA g.1)) ∧
   ((Plain (gC enA g.1)) ∧
   (((0 : Nat) = (0 : Nat)) ∧
   ((List.length g.3.1 = List.length g.3.1) ∧
   (((↑(smZ g.3.1 (List.length g.3.1)) : Int) = (↑(smZ g.3.1 (List.length g.3.1)) : Int)) ∧
   ((g.3.3 = g.3.3) ∧
   (((0 : Nat) = (0 : Nat)) ∧
   ((List.length g.3.1 = List.length g.3.1) ∧
   ((g.3.3 = g.3.3) ∧
   ((Eq (α := List Value) (gC enF (g.3.1 ++ g.3.2)) (gC enF (g.3.1 ++ g.3.2))) ∧
   ((Plain (gC enF (g.3.1 ++ g.3.2))) ∧
   ((Eq (α := List Value) (gC enF (g.3.1 ++ g.3.2)) (gC enF (g.3.1 ++ g.3.2))) ∧
   ((Plain (gC enF (g.3.1 ++ g.3.2))) ∧
   True))))))))))))))))))))) := by kernel_rfl
theorem PN_round (g : List Asx) (i : Nat) (Inv : Nat → Prop) (m : Nat → Nat) : mev EtPl noM 60 4 (0 :: pP1) false (codeOf Try.prog 4 (0 :: pP1)) ⟨mkOv (slN g i), 195, []⟩ none ⟨mkR [(0, gRo enA g)], 5⟩ (roundK 1 5 195 Inv m (slN g) (fun _ => [(0, gRo enA g)]) (wsP g) i) =
  (br (decide ((↑i : Int) < Int.ofNat (List.length g)))
   (br (decide ((↑i : Int) < (60 : Int)))
    (∃ y : Unit, ((True) ∧
    (((0 : Nat) = (0 : Nat)) ∧
    ((List.length g = List.length g) ∧
    ((Eq (α := List Value) (gC enA g) (gC enA g)) ∧
    ((Plain (gC enA g)) ∧
    True))))))
    (∃ y : Unit, ((True) ∧
    (((0 : Nat) = (0 : Nat)) ∧
    ((List.length g = List.length g) ∧
    ((Eq (α := List Value) (gC enA g) (gC enA g)) ∧
    ((Plain (gC enA g)) ∧
    True)))))))
   (∃ y : Unit, ((True) ∧
   (((0 : Nat) = (0 : Nat)) ∧
   ((List.length g = List.length g) ∧
   ((Eq (α := List Value) (gC enA g) (gC enA g)) ∧
   ((Plain (gC enA g)) ∧
   True))))))) := by kernel_rfl
theorem P1_round (l : List Asx) (s : Nat × Tb) (Inv : Nat × Tb → Prop) (m : Nat × Tb → Nat) : mev EtPl mP2 60 4 (0 :: pP1) false (codeOf Try.prog 4 (0 :: pP1)) ⟨mkOv (slP l s.1), 195, []⟩ none ⟨mkR (rlP l s.2), 5⟩ (roundK 1 5 195 Inv m (fun s => slP l s.1) (fun s => rlP l s.2) (wsP l) s) =
  (br (decide ((↑s.1 : Int) < Int.ofNat (List.length l)))
   (br (decide ((↑s.1 : Int) < (60 : Int)))
    (br (decide ((0 : Int) ≤ (↑s.1 : Int) ∧ (↑s.1 : Int) < (↑(List.length l) : Int)))
     ((Eq (α := Option Value) ((gC enA l)[(0 : Nat) + Int.toNat (↑s.1 : Int) * (4 : Nat)]?) (some (Value.int IntKind.i64 (cellI (gC enA l) ((0 : Nat) + Int.toNat (↑s.1 : Int) * (4 : Nat)))))) ∧
     ((Eq (α := Option Value) ((gC enA l)[(0 : Nat) + Int.toNat (↑s.1 : Int) * (4 : Nat) + (1 : Nat)]?) (some (Value.int IntKind.i64 (cellI (gC enA l) ((0 : Nat) + Int.toNat (↑s.1 : Int) * (4 : Nat) + (1 : Nat)))))) ∧
     ((Eq (α := Option Value) ((gC enA l)[(0 : Nat) + Int.toNat (↑s.1 : Int) * (4 : Nat) + (1 : Nat) + (1 : Nat)]?) (some (Value.string (cellS (gC enA l) ((0 : Nat) + Int.toNat (↑s.1 : Int) * (4 : Nat) + (1 : Nat) + (1 : Nat)))))) ∧
     ((Eq (α := Option Value) ((gC enA l)[(0 : Nat) + Int.toNat (↑s.1 : Int) * (4 : Nat) + (1 : Nat) + (1 : Nat) + (1 : Nat)]?) (some (Value.string (cellS (gC enA l) ((0 : Nat) + Int.toNat (↑s.1 : Int) * (4 : Nat) + (1 : Nat) + (1 : Nat) + (1 : Nat)))))) ∧
     (br (decide (IntKind.wrap IntKind.i64 (Int.ofNat (List.length (Array.toList (ByteArray.data (cellS (gC enA l) ((0 : Nat) + Int.toNat (↑s.1 : Int) * (4 : Nat) + (1 : Nat) + (1 : Nat)))))) + Int.ofNat (List.length (Array.toList (ByteArray.data (cellS (gC enA l) ((0 : Nat) + Int.toNat (↑s.1 : Int) * (4 : Nat) + (1 : Nat) + (1 : Nat) + (1 : Nat))))))) > (1000 : Int)))
      (∃ j : Nat × Tb, ((Inv j) ∧
      ((m j < m s) ∧
      (((0 : Nat) = (0 : Nat)) ∧
      ((List.length l = List.length l) ∧
      (((0 : Nat) = (0 : Nat)) ∧
      (((0 : Nat) = (0 : Nat)) ∧
      (((↑j.1 : Int) = IntKind.wrap IntKind.i64 ((↑s.1 : Int) + (1 : Int))) ∧
      ((Eq (α := List Value) (gC enA l) (gC enA l)) ∧
      ((Plain (gC enA l)) ∧
      (((0 : Nat) = (0 : Nat)) ∧
      ((List.length j.2.1 = List.length s.2.1) ∧
      (((↑(smZ j.2.1 (List.length j.2.1)) : Int) = (↑(smZ s.2.1 (List.length s.2.1)) : Int)) ∧
      ((j.2.3 = s.2.3) ∧
      (((0 : Nat) = (0 : Nat)) ∧
      ((List.length j.2.1 = List.length s.2.1) ∧
      ((j.2.3 = s.2.3) ∧
      ((Eq (α := List Value) (gC enF (j.2.1 ++ j.2.2)) (gC enF (s.2.1 ++ s.2.2))) ∧
      ((Plain (gC enF (j.2.1 ++ j.2.2))) ∧
      ((Eq (α := List Value) (gC enF (j.2.1 ++ j.2.2)) (gC enF (s.2.1 ++ s.2.2))) ∧
      ((Plain (gC enF (j.2.1 ++ j.2.2))) ∧
      True)))))))))))))))))))))
      (br (cellI (gC enA l) ((0 : Nat) + Int.toNat (↑s.1 : Int) * (4 : Nat)) == (1 : Int))
       ((((True ∧ ((True ∧ (True ∧ True)) ∧ True)) ∧ (((True ∧ (True ∧ (True ∧ True))) ∧ (Plain (gC enF (s.2.1 ++ s.2.2)) ∧ True)) ∧ ((Plain (adC (Row.mk (gC enF (s.2.1 ++ s.2.2)) false (Ob.cells true)) (List.length s.2.1) s.2.3 (cellS (gC enA l) ((0 : Nat) + Int.toNat (↑s.1 : Int) * (4 : Nat) + (1 : Nat) + (1 : Nat))) (cellS (gC enA l) ((0 : Nat) + Int.toNat (↑s.1 : Int) * (4 : Nat) + (1 : Nat) + (1 : Nat) + (1 : Nat)))) ∧ True) ∧ (IsTb (Row.mk (gC enF (s.2.1 ++ s.2.2)) false (Ob.cells true)) (List.length s.2.1) (↑(smZ s.2.1 (List.length s.2.1)) : Int) ∧ (fbZ (cellS (gC enA l) ((0 : Nat) + Int.toNat (↑s.1 : Int) * (4 : Nat) + (1 : Nat) + (1 : Nat))) (cellS (gC enA l) ((0 : Nat) + Int.toNat (↑s.1 : Int) * (4 : Nat) + (1 : Nat) + (1 : Nat) + (1 : Nat))) ≤ (100000000 : Nat) ∧ ((0 : Int) ≤ s.2.3 ∧ s.2.3 ≤ (100000000 : Int)))))))) ∧
       ((((True ∧ ((True ∧ (True ∧ True)) ∧ True)) ∧ (((True ∧ (True ∧ True)) ∧ (Plain (gC enF (s.2.1 ++ s.2.2)) ∧ True)) ∧ ((Plain (adC (Row.mk (gC enF (s.2.1 ++ s.2.2)) false (Ob.cells true)) (List.length s.2.1) s.2.3 (cellS (gC enA l) ((0 : Nat) + Int.toNat (↑s.1 : Int) * (4 : Nat) + (1 : Nat) + (1 : Nat))) (cellS (gC enA l) ((0 : Nat) + Int.toNat (↑s.1 : Int) * (4 : Nat) + (1 : Nat) + (1 : Nat) + (1 : Nat)))) ∧ True) ∧ (IsTb (Row.mk (gC enF (s.2.1 ++ s.2.2)) false (Ob.cells true)) (List.length s.2.1) (szR (Row.mk (gC enF (s.2.1 ++ s.2.2)) false (Ob.cells true)) (List.length s.2.1)) ∧ (fbZ (cellS (gC enA l) ((0 : Nat) + Int.toNat (↑s.1 : Int) * (4 : Nat) + (1 : Nat) + (1 : Nat))) (cellS (gC enA l) ((0 : Nat) + Int.toNat (↑s.1 : Int) * (4 : Nat) + (1 : Nat) + (1 : Nat) + (1 : Nat))) ≤ (100000000 : Nat) ∧ ((0 : Int) ≤ s.2.3 ∧ s.2.3 ≤ (100000000 : Int)))))))) ∧
       (br (Int.ofNat (adN (Row.mk (gC enF (s.2.1 ++ s.2.2)) false (Ob.cells true)) (List.length s.2.1) s.2.3 (cellS (gC enA l) ((0 : Nat) + Int.toNat (↑s.1 : Int) * (4 : Nat) + (1 : Nat) + (1 : Nat))) (cellS (gC enA l) ((0 : Nat) + Int.toNat (↑s.1 : Int) * (4 : Nat) + (1 : Nat) + (1 : Nat) + (1 : Nat)))) != Int.ofNat (adN (Row.mk (gC enF (s.2.1 ++ s.2.2)) false (Ob.cells true)) (List.length s.2.1) s.2.3 (cellS (gC enA l) ((0 : Nat) + Int.toNat (↑s.1 : Int) * (4 : Nat) + (1 : Nat) + (1 : Nat))) (cellS (gC enA l) ((0 : Nat) + Int.toNat (↑s.1 : Int) * (4 : Nat) + (1 : Nat) + (1 : Nat) + (1 : Nat)))))
        ((Value.slice (some (Addr.mk (7 : Nat) (0 : Nat) none)) (adN (Row.mk (gC enF (s.2.1 ++ s.2.2)) false (Ob.cells true)) (List.length s.2.1) s.2.3 (cellS (gC enA l) ((0 : Nat) + Int.toNat (↑s.1 : Int) * (4 : Nat) + (1 : Nat) + (1 : Nat))) (cellS (gC enA l) ((0 : Nat) + Int.toNat (↑s.1 : Int) * (4 : Nat) + (1 : Nat) + (1 : Nat) + (1 : Nat)))) (2 : Nat) = Value.slice (some (Addr.mk (7 : Nat) (0 : Nat) none)) (adN (Row.mk (gC enF (s.2.1 ++ s.2.2)) false (Ob.cells true)) (List.length s.2.1) s.2.3 (cellS (gC enA l) ((0 : Nat) + Int.toNat (↑s.1 : Int) * (4 : Nat) + (1 : Nat) + (1 : Nat))) (cellS (gC enA l) ((0 : Nat) + Int.toNat (↑s.1 : Int) * (4 : Nat) + (1 : Nat) + (1 : Nat) + (1 : Nat)))) (2 : Nat)) ∧
        ((Value.slice (some (Addr.mk (7 : Nat) (0 : Nat) none)) (adN (Row.mk (gC enF (s.2.1 ++ s.2.2)) false (Ob.cells true)) (List.length s.2.1) s.2.3 (cellS (gC enA l) ((0 : Nat) + Int.toNat (↑s.1 : Int) * (4 : Nat) + (1 : Nat) + (1 : Nat))) (cellS (gC enA l) ((0 : Nat) + Int.toNat (↑s.1 : Int) * (4 : Nat) + (1 : Nat) + (1 : Nat) + (1 : Nat)))) (2 : Nat) = Value.slice (some (Addr.mk (7 : Nat) (0 : Nat) none)) (adN (Row.mk (gC enF (s.2.1 ++ s.2.2)) false (Ob.cells true)) (List.length s.2.1) s.2.3 (cellS (gC enA l) ((0 : Nat) + Int.toNat (↑s.1 : Int) * (4 : Nat) + (1 : Nat) + (1 : Nat))) (cellS (gC enA l) ((0 : Nat) + Int.toNat (↑s.1 : Int) * (4 : Nat) + (1 : Nat) + (1 : Nat) + (1 : Nat)))) (2 : Nat)) ∧
        False))
        ((((True ∧ True) ∧ (((True ∧ (True ∧ True)) ∧ (Plain (adC (Row.mk (gC enF (s.2.1 ++ s.2.2)) false (Ob.cells true)) (List.length s.2.1) s.2.3 (cellS (gC enA l) ((0 : Nat) + Int.toNat (↑s.1 : Int) * (4 : Nat) + (1 : Nat) + (1 : Nat))) (cellS (gC enA l) ((0 : Nat) + Int.toNat (↑s.1 : Int) * (4 : Nat) + (1 : Nat) + (1 : Nat) + (1 : Nat)))) ∧ True)) ∧ ((Plain (adC (Row.mk (gC enF (s.2.1 ++ s.2.2)) false (Ob.cells true)) (List.length s.2.1) s.2.3 (cellS (gC enA l) ((0 : Nat) + Int.toNat (↑s.1 : Int) * (4 : Nat) + (1 : Nat) + (1 : Nat))) (cellS (gC enA l) ((0 : Nat) + Int.toNat (↑s.1 : Int) * (4 : Nat) + (1 : Nat) + (1 : Nat) + (1 : Nat)))) ∧ True) ∧ IsTr (Row.mk (adC (Row.mk (gC enF (s.2.1 ++ s.2.2)) false (Ob.cells true)) (List.length s.2.1) s.2.3 (cellS (gC enA l) ((0 : Nat) + Int.toNat (↑s.1 : Int) * (4 : Nat) + (1 : Nat) + (1 : Nat))) (cellS (gC enA l) ((0 : Nat) + Int.toNat (↑s.1 : Int) * (4 : Nat) + (1 : Nat) + (1 : Nat) + (1 : Nat)))) false (Ob.cells true)) (adN (Row.mk (gC enF (s.2.1 ++ s.2.2)) false (Ob.cells true)) (List.length s.2.1) s.2.3 (cellS (gC enA l) ((0 : Nat) + Int.toNat (↑s.1 : Int) * (4 : Nat) + (1 : Nat) + (1 : Nat))) (cellS (gC enA l) ((0 : Nat) + Int.toNat (↑s.1 : Int) * (4 : Nat) + (1 : Nat) + (1 : Nat) + (1 : Nat)))))))) ∧
        (br (adS (Row.mk (gC enF (s.2.1 ++ s.2.2)) false (Ob.cells true)) (List.length s.2.1) s.2.3 (cellS (gC enA l) ((0 : Nat) + Int.toNat (↑s.1 : Int) * (4 : Nat) + (1 : Nat) + (1 : Nat))) (cellS (gC enA l) ((0 : Nat) + Int.toNat (↑s.1 : Int) * (4 : Nat) + (1 : Nat) + (1 : Nat) + (1 : Nat))) != szR (Row.mk (adC (Row.mk (gC enF (s.2.1 ++ s.2.2)) false (Ob.cells true)) (List.length s.2.1) s.2.3 (cellS (gC enA l) ((0 : Nat) + Int.toNat (↑s.1 : Int) * (4 : Nat) + (1 : Nat) + (1 : Nat))) (cellS (gC enA l) ((0 : Nat) + Int.toNat (↑s.1 : Int) * (4 : Nat) + (1 : Nat) + (1 : Nat) + (1 : Nat)))) false (Ob.cells true)) (adN (Row.mk (gC enF (s.2.1 ++ s.2.2)) false (Ob.cells true)) (List.length s.2.1) s.2.3 (cellS (gC enA l) ((0 : Nat) + Int.toNat (↑s.1 : Int) * (4 : Nat) + (1 : Nat) + (1 : Nat))) (cellS (gC enA l) ((0 : Nat) + Int.toNat (↑s.1 : Int) * (4 : Nat) + (1 : Nat) + (1 : Nat) + (1 : Nat)))))
         ((Value.slice (some (Addr.mk (7 : Nat) (0 : Nat) none)) (adN (Row.mk (gC enF (s.2.1 ++ s.2.2)) false (Ob.cells true)) (List.length s.2.1) s.2.3 (cellS (gC enA l) ((0 : Nat) + Int.toNat (↑s.1 : Int) * (4 : Nat) + (1 : Nat) + (1 : Nat))) (cellS (gC enA l) ((0 : Nat) + Int.toNat (↑s.1 : Int) * (4 : Nat) + (1 : Nat) + (1 : Nat) + (1 : Nat)))) (2 : Nat) = Value.slice (some (Addr.mk (7 : Nat) (0 : Nat) none)) (adN (Row.mk (gC enF (s.2.1 ++ s.2.2)) false (Ob.cells true)) (List.length s.2.1) s.2.3 (cellS (gC enA l) ((0 : Nat) + Int.toNat (↑s.1 : Int) * (4 : Nat) + (1 : Nat) + (1 : Nat))) (cellS (gC enA l) ((0 : Nat) + Int.toNat (↑s.1 : Int) * (4 : Nat) + (1 : Nat) + (1 : Nat) + (1 : Nat)))) (2 : Nat)) ∧
         ((Value.slice (some (Addr.mk (7 : Nat) (0 : Nat) none)) (adN (Row.mk (gC enF (s.2.1 ++ s.2.2)) false (Ob.cells true)) (List.length s.2.1) s.2.3 (cellS (gC enA l) ((0 : Nat) + Int.toNat (↑s.1 : Int) * (4 : Nat) + (1 : Nat) + (1 : Nat))) (cellS (gC enA l) ((0 : Nat) + Int.toNat (↑s.1 : Int) * (4 : Nat) + (1 : Nat) + (1 : Nat) + (1 : Nat)))) (2 : Nat) = Value.slice (some (Addr.mk (7 : Nat) (0 : Nat) none)) (adN (Row.mk (gC enF (s.2.1 ++ s.2.2)) false (Ob.cells true)) (List.length s.2.1) s.2.3 (cellS (gC enA l) ((0 : Nat) + Int.toNat (↑s.1 : Int) * (4 : Nat) + (1 : Nat) + (1 : Nat))) (cellS (gC enA l) ((0 : Nat) + Int.toNat (↑s.1 : Int) * (4 : Nat) + (1 : Nat) + (1 : Nat) + (1 : Nat)))) (2 : Nat)) ∧
         False))
         ((Value.slice (some (Addr.mk (7 : Nat) (0 : Nat) none)) (adN (Row.mk (gC enF (s.2.1 ++ s.2.2)) false (Ob.cells true)) (List.length s.2.1) s.2.3 (cellS (gC enA l) ((0 : Nat) + Int.toNat (↑s.1 : Int) * (4 : Nat) + (1 : Nat) + (1 : Nat))) (cellS (gC enA l) ((0 : Nat) + Int.toNat (↑s.1 : Int) * (4 : Nat) + (1 : Nat) + (1 : Nat) + (1 : Nat)))) (2 : Nat) = Value.slice (some (Addr.mk (7 : Nat) (0 : Nat) none)) (adN (Row.mk (gC enF (s.2.1 ++ s.2.2)) false (Ob.cells true)) (List.length s.2.1) s.2.3 (cellS (gC enA l) ((0 : Nat) + Int.toNat (↑s.1 : Int) * (4 : Nat) + (1 : Nat) + (1 : Nat))) (cellS (gC enA l) ((0 : Nat) + Int.toNat (↑s.1 : Int) * (4 : Nat) + (1 : Nat) + (1 : Nat) + (1 : Nat)))) (2 : Nat)) ∧
         ((Value.slice (some (Addr.mk (7 : Nat) (0 : Nat) none)) (adN (Row.mk (gC enF (s.2.1 ++ s.2.2)) false (Ob.cells true)) (List.length s.2.1) s.2.3 (cellS (gC enA l) ((0 : Nat) + Int.toNat (↑s.1 : Int) * (4 : Nat) + (1 : Nat) + (1 : Nat))) (cellS (gC enA l) ((0 : Nat) + Int.toNat (↑s.1 : Int) * (4 : Nat) + (1 : Nat) + (1 : Nat) + (1 : Nat)))) (2 : Nat) = Value.slice (some (Addr.mk (7 : Nat) (0 : Nat) none)) (adN (Row.mk (gC enF (s.2.1 ++ s.2.2)) false (Ob.cells true)) (List.length s.2.1) s.2.3 (cellS (gC enA l) ((0 : Nat) + Int.toNat (↑s.1 : Int) * (4 : Nat) + (1 : Nat) + (1 : Nat))) (cellS (gC enA l) ((0 : Nat) + Int.toNat (↑s.1 : Int) * (4 : Nat) + (1 : Nat) + (1 : Nat) + (1 : Nat)))) (2 : Nat)) ∧
         ((Value.int IntKind.i64 s.2.3 = Value.int IntKind.i64 s.2.3) ∧
         ((Value.int IntKind.i64 s.2.3 = Value.int IntKind.i64 s.2.3) ∧
         (br (s.2.3 != s.2.3)
          False
          (∃ g : GP2, ((Ok (GP2.t g)) ∧
          (((0 : Nat) = (0 : Nat)) ∧
          ((List.length g.1 = List.length l) ∧
          (((0 : Nat) = (0 : Nat)) ∧
          (((0 : Nat) = (0 : Nat)) ∧
          (((↑g.2 : Int) = (↑s.1 : Int)) ∧
          (((0 : Int) = (0 : Int)) ∧
          ((Eq (α := List Value) (gC enA g.1) (gC enA l)) ∧
          ((Plain (gC enA g.1)) ∧
          (((0 : Nat) = (0 : Nat)) ∧
          ((List.length g.3.1 = adN (Row.mk (gC enF (s.2.1 ++ s.2.2)) false (Ob.cells true)) (List.length s.2.1) s.2.3 (cellS (gC enA l) ((0 : Nat) + Int.toNat (↑s.1 : Int) * (4 : Nat) + (1 : Nat) + (1 : Nat))) (cellS (gC enA l) ((0 : Nat) + Int.toNat (↑s.1 : Int) * (4 : Nat) + (1 : Nat) + (1 : Nat) + (1 : Nat)))) ∧
          (((↑(smZ g.3.1 (List.length g.3.1)) : Int) = adS (Row.mk (gC enF (s.2.1 ++ s.2.2)) false (Ob.cells true)) (List.length s.2.1) s.2.3 (cellS (gC enA l) ((0 : Nat) + Int.toNat (↑s.1 : Int) * (4 : Nat) + (1 : Nat) + (1 : Nat))) (cellS (gC enA l) ((0 : Nat) + Int.toNat (↑s.1 : Int) * (4 : Nat) + (1 : Nat) + (1 : Nat) + (1 : Nat)))) ∧
          ((g.3.3 = s.2.3) ∧
          (((0 : Nat) = (0 : Nat)) ∧
          ((List.length g.3.1 = adN (Row.mk (gC enF (s.2.1 ++ s.2.2)) false (Ob.cells true)) (List.length s.2.1) s.2.3 (cellS (gC enA l) ((0 : Nat) + Int.toNat (↑s.1 : Int) * (4 : Nat) + (1 : Nat) + (1 : Nat))) (cellS (gC enA l) ((0 : Nat) + Int.toNat (↑s.1 : Int) * (4 : Nat) + (1 : Nat) + (1 : Nat) + (1 : Nat)))) ∧
          ((g.3.3 = s.2.3) ∧
          ((Eq (α := List Value) (gC enF (g.3.1 ++ g.3.2)) (adC (Row.mk (gC enF (s.2.1 ++ s.2.2)) false (Ob.cells true)) (List.length s.2.1) s.2.3 (cellS (gC enA l) ((0 : Nat) + Int.toNat (↑s.1 : Int) * (4 : Nat) + (1 : Nat) + (1 : Nat))) (cellS (gC enA l) ((0 : Nat) + Int.toNat (↑s.1 : Int) * (4 : Nat) + (1 : Nat) + (1 : Nat) + (1 : Nat))))) ∧
          ((Plain (gC enF (g.3.1 ++ g.3.2))) ∧
          ((Eq (α := List Value) (gC enF (g.3.1 ++ g.3.2)) (adC (Row.mk (gC enF (s.2.1 ++ s.2.2)) false (Ob.cells true)) (List.length s.2.1) s.2.3 (cellS (gC enA l) ((0 : Nat) + Int.toNat (↑s.1 : Int) * (4 : Nat) + (1 : Nat) + (1 : Nat))) (cellS (gC enA l) ((0 : Nat) + Int.toNat (↑s.1 : Int) * (4 : Nat) + (1 : Nat) + (1 : Nat) + (1 : Nat))))) ∧
          ((Plain (gC enF (g.3.1 ++ g.3.2))) ∧
          (∀ (y : Unit), ((True) →
          (∃ j : Nat × Tb, ((Inv j) ∧
          ((m j < m s) ∧
          (((0 : Nat) = (0 : Nat)) ∧
          ((List.length l = List.length g.1) ∧
          (((0 : Nat) = (0 : Nat)) ∧
          (((0 : Nat) = (0 : Nat)) ∧
          (((↑j.1 : Int) = IntKind.wrap IntKind.i64 ((↑g.2 : Int) + (1 : Int))) ∧
          ((Eq (α := List Value) (gC enA l) (gC enA g.1)) ∧
          ((Plain (gC enA l)) ∧
          (((0 : Nat) = (0 : Nat)) ∧
          ((List.length j.2.1 = List.length g.3.1) ∧
          (((↑(smZ j.2.1 (List.length j.2.1)) : Int) = (↑(smZ g.3.1 (List.length g.3.1)) : Int)) ∧
          ((j.2.3 = g.3.3) ∧
          (((0 : Nat) = (0 : Nat)) ∧
          ((List.length j.2.1 = List.length g.3.1) ∧
          ((j.2.3 = g.3.3) ∧
          ((Eq (α := List Value) (gC enF (j.2.1 ++ j.2.2)) (gC enF (g.3.1 ++ g.3.2))) ∧
          ((Plain (gC enF (j.2.1 ++ j.2.2))) ∧
          ((Eq (α := List Value) (gC enF (j.2.1 ++ j.2.2)) (gC enF (g.3.1 ++ g.3.2))) ∧
          ((Plain (gC enF (j.2.1 ++ j.2.2))) ∧
          True))))))))))))))))))))))))))))))))))))))))))))))))))))))
       (br (cellI (gC enA l) ((0 : Nat) + Int.toNat (↑s.1 : Int) * (4 : Nat)) == (2 : Int))
        ((((True ∧ (True ∧ True)) ∧ (((True ∧ (True ∧ (True ∧ True))) ∧ (Plain (gC enF (s.2.1 ++ s.2.2)) ∧ True)) ∧ ((Plain (rsC (Row.mk (gC enF (s.2.1 ++ s.2.2)) false (Ob.cells true)) (List.length s.2.1) s.2.3 (cellI (gC enA l) ((0 : Nat) + Int.toNat (↑s.1 : Int) * (4 : Nat) + (1 : Nat)))) ∧ True) ∧ IsTb (Row.mk (gC enF (s.2.1 ++ s.2.2)) false (Ob.cells true)) (List.length s.2.1) (↑(smZ s.2.1 (List.length s.2.1)) : Int))))) ∧
        ((((True ∧ (True ∧ True)) ∧ (((True ∧ (True ∧ True)) ∧ (Plain (gC enF (s.2.1 ++ s.2.2)) ∧ True)) ∧ ((Plain (rsC (Row.mk (gC enF (s.2.1 ++ s.2.2)) false (Ob.cells true)) (List.length s.2.1) s.2.3 (cellI (gC enA l) ((0 : Nat) + Int.toNat (↑s.1 : Int) * (4 : Nat) + (1 : Nat)))) ∧ True) ∧ IsTb (Row.mk (gC enF (s.2.1 ++ s.2.2)) false (Ob.cells true)) (List.length s.2.1) (szR (Row.mk (gC enF (s.2.1 ++ s.2.2)) false (Ob.cells true)) (List.length s.2.1)))))) ∧
        ((Value.int IntKind.i64 (cellI (gC enA l) ((0 : Nat) + Int.toNat (↑s.1 : Int) * (4 : Nat) + (1 : Nat))) = Value.int IntKind.i64 (cellI (gC enA l) ((0 : Nat) + Int.toNat (↑s.1 : Int) * (4 : Nat) + (1 : Nat)))) ∧
        ((Value.int IntKind.i64 (cellI (gC enA l) ((0 : Nat) + Int.toNat (↑s.1 : Int) * (4 : Nat) + (1 : Nat))) = Value.int IntKind.i64 (cellI (gC enA l) ((0 : Nat) + Int.toNat (↑s.1 : Int) * (4 : Nat) + (1 : Nat)))) ∧
        ((Value.int IntKind.i64 (cellI (gC enA l) ((0 : Nat) + Int.toNat (↑s.1 : Int) * (4 : Nat) + (1 : Nat))) = Value.int IntKind.i64 (cellI (gC enA l) ((0 : Nat) + Int.toNat (↑s.1 : Int) * (4 : Nat) + (1 : Nat)))) ∧
        (br (rsZ (cellI (gC enA l) ((0 : Nat) + Int.toNat (↑s.1 : Int) * (4 : Nat) + (1 : Nat))) != rsZ (cellI (gC enA l) ((0 : Nat) + Int.toNat (↑s.1 : Int) * (4 : Nat) + (1 : Nat))))
         False
         (br (Int.ofNat (rsN (Row.mk (gC enF (s.2.1 ++ s.2.2)) false (Ob.cells true)) (List.length s.2.1) s.2.3 (cellI (gC enA l) ((0 : Nat) + Int.toNat (↑s.1 : Int) * (4 : Nat) + (1 : Nat)))) != Int.ofNat (rsN (Row.mk (gC enF (s.2.1 ++ s.2.2)) false (Ob.cells true)) (List.length s.2.1) s.2.3 (cellI (gC enA l) ((0 : Nat) + Int.toNat (↑s.1 : Int) * (4 : Nat) + (1 : Nat)))))
          ((Value.slice (some (Addr.mk (16 : Nat) (0 : Nat) none)) (rsN (Row.mk (gC enF (s.2.1 ++ s.2.2)) false (Ob.cells true)) (List.length s.2.1) s.2.3 (cellI (gC enA l) ((0 : Nat) + Int.toNat (↑s.1 : Int) * (4 : Nat) + (1 : Nat)))) (2 : Nat) = Value.slice (some (Addr.mk (16 : Nat) (0 : Nat) none)) (rsN (Row.mk (gC enF (s.2.1 ++ s.2.2)) false (Ob.cells true)) (List.length s.2.1) s.2.3 (cellI (gC enA l) ((0 : Nat) + Int.toNat (↑s.1 : Int) * (4 : Nat) + (1 : Nat)))) (2 : Nat)) ∧
          ((Value.slice (some (Addr.mk (16 : Nat) (0 : Nat) none)) (rsN (Row.mk (gC enF (s.2.1 ++ s.2.2)) false (Ob.cells true)) (List.length s.2.1) s.2.3 (cellI (gC enA l) ((0 : Nat) + Int.toNat (↑s.1 : Int) * (4 : Nat) + (1 : Nat)))) (2 : Nat) = Value.slice (some (Addr.mk (16 : Nat) (0 : Nat) none)) (rsN (Row.mk (gC enF (s.2.1 ++ s.2.2)) false (Ob.cells true)) (List.length s.2.1) s.2.3 (cellI (gC enA l) ((0 : Nat) + Int.toNat (↑s.1 : Int) * (4 : Nat) + (1 : Nat)))) (2 : Nat)) ∧
          False))
          ((((True ∧ True) ∧ (((True ∧ (True ∧ True)) ∧ (Plain (rsC (Row.mk (gC enF (s.2.1 ++ s.2.2)) false (Ob.cells true)) (List.length s.2.1) s.2.3 (cellI (gC enA l) ((0 : Nat) + Int.toNat (↑s.1 : Int) * (4 : Nat) + (1 : Nat)))) ∧ True)) ∧ ((Plain (rsC (Row.mk (gC enF (s.2.1 ++ s.2.2)) false (Ob.cells true)) (List.length s.2.1) s.2.3 (cellI (gC enA l) ((0 : Nat) + Int.toNat (↑s.1 : Int) * (4 : Nat) + (1 : Nat)))) ∧ True) ∧ IsTr (Row.mk (rsC (Row.mk (gC enF (s.2.1 ++ s.2.2)) false (Ob.cells true)) (List.length s.2.1) s.2.3 (cellI (gC enA l) ((0 : Nat) + Int.toNat (↑s.1 : Int) * (4 : Nat) + (1 : Nat)))) false (Ob.cells true)) (rsN (Row.mk (gC enF (s.2.1 ++ s.2.2)) false (Ob.cells true)) (List.length s.2.1) s.2.3 (cellI (gC enA l) ((0 : Nat) + Int.toNat (↑s.1 : Int) * (4 : Nat) + (1 : Nat)))))))) ∧
          (br (rsS (Row.mk (gC enF (s.2.1 ++ s.2.2)) false (Ob.cells true)) (List.length s.2.1) s.2.3 (cellI (gC enA l) ((0 : Nat) + Int.toNat (↑s.1 : Int) * (4 : Nat) + (1 : Nat))) != szR (Row.mk (rsC (Row.mk (gC enF (s.2.1 ++ s.2.2)) false (Ob.cells true)) (List.length s.2.1) s.2.3 (cellI (gC enA l) ((0 : Nat) + Int.toNat (↑s.1 : Int) * (4 : Nat) + (1 : Nat)))) false (Ob.cells true)) (rsN (Row.mk (gC enF (s.2.1 ++ s.2.2)) false (Ob.cells true)) (List.length s.2.1) s.2.3 (cellI (gC enA l) ((0 : Nat) + Int.toNat (↑s.1 : Int) * (4 : Nat) + (1 : Nat)))))
           ((Value.slice (some (Addr.mk (16 : Nat) (0 : Nat) none)) (rsN (Row.mk (gC enF (s.2.1 ++ s.2.2)) false (Ob.cells true)) (List.length s.2.1) s.2.3 (cellI (gC enA l) ((0 : Nat) + Int.toNat (↑s.1 : Int) * (4 : Nat) + (1 : Nat)))) (2 : Nat) = Value.slice (some (Addr.mk (16 : Nat) (0 : Nat) none)) (rsN (Row.mk (gC enF (s.2.1 ++ s.2.2)) false (Ob.cells true)) (List.length s.2.1) s.2.3 (cellI (gC enA l) ((0 : Nat) + Int.toNat (↑s.1 : Int) * (4 : Nat) + (1 : Nat)))) (2 : Nat)) ∧
           ((Value.slice (some (Addr.mk (16 : Nat) (0 : Nat) none)) (rsN (Row.mk (gC enF (s.2.1 ++ s.2.2)) false (Ob.cells true)) (List.length s.2.1) s.2.3 (cellI (gC enA l) ((0 : Nat) + Int.toNat (↑s.1 : Int) * (4 : Nat) + (1 : Nat)))) (2 : Nat) = Value.slice (some (Addr.mk (16 : Nat) (0 : Nat) none)) (rsN (Row.mk (gC enF (s.2.1 ++ s.2.2)) false (Ob.cells true)) (List.length s.2.1) s.2.3 (cellI (gC enA l) ((0 : Nat) + Int.toNat (↑s.1 : Int) * (4 : Nat) + (1 : Nat)))) (2 : Nat)) ∧
           False))
           ((Value.slice (some (Addr.mk (16 : Nat) (0 : Nat) none)) (rsN (Row.mk (gC enF (s.2.1 ++ s.2.2)) false (Ob.cells true)) (List.length s.2.1) s.2.3 (cellI (gC enA l) ((0 : Nat) + Int.toNat (↑s.1 : Int) * (4 : Nat) + (1 : Nat)))) (2 : Nat) = Value.slice (some (Addr.mk (16 : Nat) (0 : Nat) none)) (rsN (Row.mk (gC enF (s.2.1 ++ s.2.2)) false (Ob.cells true)) (List.length s.2.1) s.2.3 (cellI (gC enA l) ((0 : Nat) + Int.toNat (↑s.1 : Int) * (4 : Nat) + (1 : Nat)))) (2 : Nat)) ∧
           ((Value.slice (some (Addr.mk (16 : Nat) (0 : Nat) none)) (rsN (Row.mk (gC enF (s.2.1 ++ s.2.2)) false (Ob.cells true)) (List.length s.2.1) s.2.3 (cellI (gC enA l) ((0 : Nat) + Int.toNat (↑s.1 : Int) * (4 : Nat) + (1 : Nat)))) (2 : Nat) = Value.slice (some (Addr.mk (16 : Nat) (0 : Nat) none)) (rsN (Row.mk (gC enF (s.2.1 ++ s.2.2)) false (Ob.cells true)) (List.length s.2.1) s.2.3 (cellI (gC enA l) ((0 : Nat) + Int.toNat (↑s.1 : Int) * (4 : Nat) + (1 : Nat)))) (2 : Nat)) ∧
           ((Value.int IntKind.i64 (rsM s.2.3 (cellI (gC enA l) ((0 : Nat) + Int.toNat (↑s.1 : Int) * (4 : Nat) + (1 : Nat)))) = Value.int IntKind.i64 (rsM s.2.3 (cellI (gC enA l) ((0 : Nat) + Int.toNat (↑s.1 : Int) * (4 : Nat) + (1 : Nat))))) ∧
           ((Value.int IntKind.i64 (rsM s.2.3 (cellI (gC enA l) ((0 : Nat) + Int.toNat (↑s.1 : Int) * (4 : Nat) + (1 : Nat)))) = Value.int IntKind.i64 (rsM s.2.3 (cellI (gC enA l) ((0 : Nat) + Int.toNat (↑s.1 : Int) * (4 : Nat) + (1 : Nat))))) ∧
           (br (rsM s.2.3 (cellI (gC enA l) ((0 : Nat) + Int.toNat (↑s.1 : Int) * (4 : Nat) + (1 : Nat))) != rsM s.2.3 (cellI (gC enA l) ((0 : Nat) + Int.toNat (↑s.1 : Int) * (4 : Nat) + (1 : Nat))))
            False
            (∃ g : GP2, ((Ok (GP2.t g)) ∧
            (((0 : Nat) = (0 : Nat)) ∧
            ((List.length g.1 = List.length l) ∧
            (((0 : Nat) = (0 : Nat)) ∧
            (((0 : Nat) = (0 : Nat)) ∧
            (((↑g.2 : Int) = (↑s.1 : Int)) ∧
            (((0 : Int) = (0 : Int)) ∧
            ((Eq (α := List Value) (gC enA g.1) (gC enA l)) ∧
            ((Plain (gC enA g.1)) ∧
            (((0 : Nat) = (0 : Nat)) ∧
            ((List.length g.3.1 = rsN (Row.mk (gC enF (s.2.1 ++ s.2.2)) false (Ob.cells true)) (List.length s.2.1) s.2.3 (cellI (gC enA l) ((0 : Nat) + Int.toNat (↑s.1 : Int) * (4 : Nat) + (1 : Nat)))) ∧
            (((↑(smZ g.3.1 (List.length g.3.1)) : Int) = rsS (Row.mk (gC enF (s.2.1 ++ s.2.2)) false (Ob.cells true)) (List.length s.2.1) s.2.3 (cellI (gC enA l) ((0 : Nat) + Int.toNat (↑s.1 : Int) * (4 : Nat) + (1 : Nat)))) ∧
            ((g.3.3 = rsM s.2.3 (cellI (gC enA l) ((0 : Nat) + Int.toNat (↑s.1 : Int) * (4 : Nat) + (1 : Nat)))) ∧
            (((0 : Nat) = (0 : Nat)) ∧
            ((List.length g.3.1 = rsN (Row.mk (gC enF (s.2.1 ++ s.2.2)) false (Ob.cells true)) (List.length s.2.1) s.2.3 (cellI (gC enA l) ((0 : Nat) + Int.toNat (↑s.1 : Int) * (4 : Nat) + (1 : Nat)))) ∧
            ((g.3.3 = rsM s.2.3 (cellI (gC enA l) ((0 : Nat) + Int.toNat (↑s.1 : Int) * (4 : Nat) + (1 : Nat)))) ∧
            ((Eq (α := List Value) (gC enF (g.3.1 ++ g.3.2)) (rsC (Row.mk (gC enF (s.2.1 ++ s.2.2)) false (Ob.cells true)) (List.length s.2.1) s.2.3 (cellI (gC enA l) ((0 : Nat) + Int.toNat (↑s.1 : Int) * (4 : Nat) + (1 : Nat))))) ∧
            ((Plain (gC enF (g.3.1 ++ g.3.2))) ∧
            ((Eq (α := List Value) (gC enF (g.3.1 ++ g.3.2)) (rsC (Row.mk (gC enF (s.2.1 ++ s.2.2)) false (Ob.cells true)) (List.length s.2.1) s.2.3 (cellI (gC enA l) ((0 : Nat) + Int.toNat (↑s.1 : Int) * (4 : Nat) + (1 : Nat))))) ∧
            ((Plain (gC enF (g.3.1 ++ g.3.2))) ∧
            (∀ (y : Unit), ((True) →
            (∃ j : Nat × Tb, ((Inv j) ∧
            ((m j < m s) ∧
            (((0 : Nat) = (0 : Nat)) ∧
            ((List.length l = List.length g.1) ∧
            (((0 : Nat) = (0 : Nat)) ∧
            (((0 : Nat) = (0 : Nat)) ∧
            (((↑j.1 : Int) = IntKind.wrap IntKind.i64 ((↑g.2 : Int) + (1 : Int))) ∧
            ((Eq (α := List Value) (gC enA l) (gC enA g.1)) ∧
            ((Plain (gC enA l)) ∧
            (((0 : Nat) = (0 : Nat)) ∧
            ((List.length j.2.1 = List.length g.3.1) ∧
            (((↑(smZ j.2.1 (List.length j.2.1)) : Int) = (↑(smZ g.3.1 (List.length g.3.1)) : Int)) ∧
            ((j.2.3 = g.3.3) ∧
            (((0 : Nat) = (0 : Nat)) ∧
            ((List.length j.2.1 = List.length g.3.1) ∧
            ((j.2.3 = g.3.3) ∧
            ((Eq (α := List Value) (gC enF (j.2.1 ++ j.2.2)) (gC enF (g.3.1 ++ g.3.2))) ∧
            ((Plain (gC enF (j.2.1 ++ j.2.2))) ∧
            ((Eq (α := List Value) (gC enF (j.2.1 ++ j.2.2)) (gC enF (g.3.1 ++ g.3.2))) ∧
            ((Plain (gC enF (j.2.1 ++ j.2.2))) ∧
            True))))))))))))))))))))))))))))))))))))))))))))))))))))))))))
        (br (cellI (gC enA l) ((0 : Nat) + Int.toNat (↑s.1 : Int) * (4 : Nat)) == (3 : Int))
         ((((True ∧ (True ∧ True)) ∧ (((True ∧ (True ∧ (True ∧ True))) ∧ (Plain (gC enF (s.2.1 ++ s.2.2)) ∧ True)) ∧ ((Plain (gC enF (s.2.1 ++ s.2.2)) ∧ True) ∧ (IsTg (Row.mk (gC enF (s.2.1 ++ s.2.2)) false (Ob.cells true)) (List.length s.2.1) ∧ I64 (cellI (gC enA l) ((0 : Nat) + Int.toNat (↑s.1 : Int) * (4 : Nat) + (1 : Nat)))))))) ∧
         ((((True ∧ (True ∧ True)) ∧ (((True ∧ (True ∧ True)) ∧ (Plain (gC enF (s.2.1 ++ s.2.2)) ∧ True)) ∧ ((Plain (gC enF (s.2.1 ++ s.2.2)) ∧ True) ∧ (IsTg (Row.mk (gC enF (s.2.1 ++ s.2.2)) false (Ob.cells true)) (List.length s.2.1) ∧ I64 (cellI (gC enA l) ((0 : Nat) + Int.toNat (↑s.1 : Int) * (4 : Nat) + (1 : Nat)))))))) ∧
         (br (!(gfA (Row.mk (gC enF (s.2.1 ++ s.2.2)) false (Ob.cells true)) (List.length s.2.1) (cellI (gC enA l) ((0 : Nat) + Int.toNat (↑s.1 : Int) * (4 : Nat) + (1 : Nat))) == gfA (Row.mk (gC enF (s.2.1 ++ s.2.2)) false (Ob.cells true)) (List.length s.2.1) (cellI (gC enA l) ((0 : Nat) + Int.toNat (↑s.1 : Int) * (4 : Nat) + (1 : Nat))) && (gfB (Row.mk (gC enF (s.2.1 ++ s.2.2)) false (Ob.cells true)) (List.length s.2.1) (cellI (gC enA l) ((0 : Nat) + Int.toNat (↑s.1 : Int) * (4 : Nat) + (1 : Nat))) == gfB (Row.mk (gC enF (s.2.1 ++ s.2.2)) false (Ob.cells true)) (List.length s.2.1) (cellI (gC enA l) ((0 : Nat) + Int.toNat (↑s.1 : Int) * (4 : Nat) + (1 : Nat))) && true)))
          False
          (br (!gfK (Row.mk (gC enF (s.2.1 ++ s.2.2)) false (Ob.cells true)) (List.length s.2.1) (cellI (gC enA l) ((0 : Nat) + Int.toNat (↑s.1 : Int) * (4 : Nat) + (1 : Nat))) == gfK (Row.mk (gC enF (s.2.1 ++ s.2.2)) false (Ob.cells true)) (List.length s.2.1) (cellI (gC enA l) ((0 : Nat) + Int.toNat (↑s.1 : Int) * (4 : Nat) + (1 : Nat))))
           False
           (br (Int.ofNat (List.length s.2.1) != Int.ofNat (List.length s.2.1))
            ((Value.slice (some (Addr.mk (4 : Nat) (0 : Nat) none)) (List.length s.2.1) (2 : Nat) = Value.slice (some (Addr.mk (4 : Nat) (0 : Nat) none)) (List.length s.2.1) (2 : Nat)) ∧
            ((Value.slice (some (Addr.mk (4 : Nat) (0 : Nat) none)) (List.length s.2.1) (2 : Nat) = Value.slice (some (Addr.mk (4 : Nat) (0 : Nat) none)) (List.length s.2.1) (2 : Nat)) ∧
            False))
            ((((True ∧ True) ∧ (((True ∧ (True ∧ True)) ∧ (Plain (gC enF (s.2.1 ++ s.2.2)) ∧ True)) ∧ ((Plain (gC enF (s.2.1 ++ s.2.2)) ∧ True) ∧ IsTr (Row.mk (gC enF (s.2.1 ++ s.2.2)) false (Ob.cells true)) (List.length s.2.1))))) ∧
            (br ((↑(smZ s.2.1 (List.length s.2.1)) : Int) != szR (Row.mk (gC enF (s.2.1 ++ s.2.2)) false (Ob.cells true)) (List.length s.2.1))
             ((Value.slice (some (Addr.mk (4 : Nat) (0 : Nat) none)) (List.length s.2.1) (2 : Nat) = Value.slice (some (Addr.mk (4 : Nat) (0 : Nat) none)) (List.length s.2.1) (2 : Nat)) ∧
             ((Value.slice (some (Addr.mk (4 : Nat) (0 : Nat) none)) (List.length s.2.1) (2 : Nat) = Value.slice (some (Addr.mk (4 : Nat) (0 : Nat) none)) (List.length s.2.1) (2 : Nat)) ∧
             False))
             ((Value.slice (some (Addr.mk (4 : Nat) (0 : Nat) none)) (List.length s.2.1) (2 : Nat) = Value.slice (some (Addr.mk (4 : Nat) (0 : Nat) none)) (List.length s.2.1) (2 : Nat)) ∧
             ((Value.slice (some (Addr.mk (4 : Nat) (0 : Nat) none)) (List.length s.2.1) (2 : Nat) = Value.slice (some (Addr.mk (4 : Nat) (0 : Nat) none)) (List.length s.2.1) (2 : Nat)) ∧
             ((Value.int IntKind.i64 s.2.3 = Value.int IntKind.i64 s.2.3) ∧
             ((Value.int IntKind.i64 s.2.3 = Value.int IntKind.i64 s.2.3) ∧
             (br (s.2.3 != s.2.3)
              False
              (∃ g : GP2, ((Ok (GP2.t g)) ∧
              (((0 : Nat) = (0 : Nat)) ∧
              ((List.length g.1 = List.length l) ∧
              (((0 : Nat) = (0 : Nat)) ∧
              (((0 : Nat) = (0 : Nat)) ∧
              (((↑g.2 : Int) = (↑s.1 : Int)) ∧
              (((0 : Int) = (0 : Int)) ∧
              ((Eq (α := List Value) (gC enA g.1) (gC enA l)) ∧
              ((Plain (gC enA g.1)) ∧
              (((0 : Nat) = (0 : Nat)) ∧
              ((List.length g.3.1 = List.length s.2.1) ∧
              (((↑(smZ g.3.1 (List.length g.3.1)) : Int) = (↑(smZ s.2.1 (List.length s.2.1)) : Int)) ∧
              ((g.3.3 = s.2.3) ∧
              (((0 : Nat) = (0 : Nat)) ∧
              ((List.length g.3.1 = List.length s.2.1) ∧
              ((g.3.3 = s.2.3) ∧
              ((Eq (α := List Value) (gC enF (g.3.1 ++ g.3.2)) (gC enF (s.2.1 ++ s.2.2))) ∧
              ((Plain (gC enF (g.3.1 ++ g.3.2))) ∧
              ((Eq (α := List Value) (gC enF (g.3.1 ++ g.3.2)) (gC enF (s.2.1 ++ s.2.2))) ∧
              ((Plain (gC enF (g.3.1 ++ g.3.2))) ∧
              (∀ (y : Unit), ((True) →
              (∃ j : Nat × Tb, ((Inv j) ∧
              ((m j < m s) ∧
              (((0 : Nat) = (0 : Nat)) ∧
              ((List.length l = List.length g.1) ∧
              (((0 : Nat) = (0 : Nat)) ∧
              (((0 : Nat) = (0 : Nat)) ∧
              (((↑j.1 : Int) = IntKind.wrap IntKind.i64 ((↑g.2 : Int) + (1 : Int))) ∧
              ((Eq (α := List Value) (gC enA l) (gC enA g.1)) ∧
              ((Plain (gC enA l)) ∧
              (((0 : Nat) = (0 : Nat)) ∧
              ((List.length j.2.1 = List.length g.3.1) ∧
              (((↑(smZ j.2.1 (List.length j.2.1)) : Int) = (↑(smZ g.3.1 (List.length g.3.1)) : Int)) ∧
              ((j.2.3 = g.3.3) ∧
              (((0 : Nat) = (0 : Nat)) ∧
              ((List.length j.2.1 = List.length g.3.1) ∧
              ((j.2.3 = g.3.3) ∧
              ((Eq (α := List Value) (gC enF (j.2.1 ++ j.2.2)) (gC enF (g.3.1 ++ g.3.2))) ∧
              ((Plain (gC enF (j.2.1 ++ j.2.2))) ∧
              ((Eq (α := List Value) (gC enF (j.2.1 ++ j.2.2)) (gC enF (g.3.1 ++ g.3.2))) ∧
              ((Plain (gC enF (j.2.1 ++ j.2.2))) ∧
              True))))))))))))))))))))))))))))))))))))))))))))))))))))))))
         (br (cellI (gC enA l) ((0 : Nat) + Int.toNat (↑s.1 : Int) * (4 : Nat)) == (4 : Int))
          ((((True ∧ ((True ∧ (True ∧ True)) ∧ True)) ∧ (((True ∧ (True ∧ (True ∧ True))) ∧ (Plain (gC enF (s.2.1 ++ s.2.2)) ∧ True)) ∧ ((Plain (gC enF (s.2.1 ++ s.2.2)) ∧ True) ∧ IsTg (Row.mk (gC enF (s.2.1 ++ s.2.2)) false (Ob.cells true)) (List.length s.2.1))))) ∧
          ((((True ∧ ((True ∧ (True ∧ True)) ∧ True)) ∧ (((True ∧ (True ∧ True)) ∧ (Plain (gC enF (s.2.1 ++ s.2.2)) ∧ True)) ∧ ((Plain (gC enF (s.2.1 ++ s.2.2)) ∧ True) ∧ IsTg (Row.mk (gC enF (s.2.1 ++ s.2.2)) false (Ob.cells true)) (List.length s.2.1))))) ∧
          (br (fdI (Row.mk (gC enF (s.2.1 ++ s.2.2)) false (Ob.cells true)) (List.length s.2.1) (cellS (gC enA l) ((0 : Nat) + Int.toNat (↑s.1 : Int) * (4 : Nat) + (1 : Nat) + (1 : Nat))) (cellS (gC enA l) ((0 : Nat) + Int.toNat (↑s.1 : Int) * (4 : Nat) + (1 : Nat) + (1 : Nat) + (1 : Nat))) != fdI (Row.mk (gC enF (s.2.1 ++ s.2.2)) false (Ob.cells true)) (List.length s.2.1) (cellS (gC enA l) ((0 : Nat) + Int.toNat (↑s.1 : Int) * (4 : Nat) + (1 : Nat) + (1 : Nat))) (cellS (gC enA l) ((0 : Nat) + Int.toNat (↑s.1 : Int) * (4 : Nat) + (1 : Nat) + (1 : Nat) + (1 : Nat))))
           False
           (br (!fdB (Row.mk (gC enF (s.2.1 ++ s.2.2)) false (Ob.cells true)) (List.length s.2.1) (cellS (gC enA l) ((0 : Nat) + Int.toNat (↑s.1 : Int) * (4 : Nat) + (1 : Nat) + (1 : Nat))) (cellS (gC enA l) ((0 : Nat) + Int.toNat (↑s.1 : Int) * (4 : Nat) + (1 : Nat) + (1 : Nat) + (1 : Nat))) == fdB (Row.mk (gC enF (s.2.1 ++ s.2.2)) false (Ob.cells true)) (List.length s.2.1) (cellS (gC enA l) ((0 : Nat) + Int.toNat (↑s.1 : Int) * (4 : Nat) + (1 : Nat) + (1 : Nat))) (cellS (gC enA l) ((0 : Nat) + Int.toNat (↑s.1 : Int) * (4 : Nat) + (1 : Nat) + (1 : Nat) + (1 : Nat))))
            False
            (br (Int.ofNat (List.length s.2.1) != Int.ofNat (List.length s.2.1))
             ((Value.slice (some (Addr.mk (4 : Nat) (0 : Nat) none)) (List.length s.2.1) (2 : Nat) = Value.slice (some (Addr.mk (4 : Nat) (0 : Nat) none)) (List.length s.2.1) (2 : Nat)) ∧
             ((Value.slice (some (Addr.mk (4 : Nat) (0 : Nat) none)) (List.length s.2.1) (2 : Nat) = Value.slice (some (Addr.mk (4 : Nat) (0 : Nat) none)) (List.length s.2.1) (2 : Nat)) ∧
             False))
             ((((True ∧ True) ∧ (((True ∧ (True ∧ True)) ∧ (Plain (gC enF (s.2.1 ++ s.2.2)) ∧ True)) ∧ ((Plain (gC enF (s.2.1 ++ s.2.2)) ∧ True) ∧ IsTr (Row.mk (gC enF (s.2.1 ++ s.2.2)) false (Ob.cells true)) (List.length s.2.1))))) ∧
             (br ((↑(smZ s.2.1 (List.length s.2.1)) : Int) != szR (Row.mk (gC enF (s.2.1 ++ s.2.2)) false (Ob.cells true)) (List.length s.2.1))
              ((Value.slice (some (Addr.mk (4 : Nat) (0 : Nat) none)) (List.length s.2.1) (2 : Nat) = Value.slice (some (Addr.mk (4 : Nat) (0 : Nat) none)) (List.length s.2.1) (2 : Nat)) ∧
              ((Value.slice (some (Addr.mk (4 : Nat) (0 : Nat) none)) (List.length s.2.1) (2 : Nat) = Value.slice (some (Addr.mk (4 : Nat) (0 : Nat) none)) (List.length s.2.1) (2 : Nat)) ∧
              False))
              ((Value.slice (some (Addr.mk (4 : Nat) (0 : Nat) none)) (List.length s.2.1) (2 : Nat) = Value.slice (some (Addr.mk (4 : Nat) (0 : Nat) none)) (List.length s.2.1) (2 : Nat)) ∧
              ((Value.slice (some (Addr.mk (4 : Nat) (0 : Nat) none)) (List.length s.2.1) (2 : Nat) = Value.slice (some (Addr.mk (4 : Nat) (0 : Nat) none)) (List.length s.2.1) (2 : Nat)) ∧
              ((Value.int IntKind.i64 s.2.3 = Value.int IntKind.i64 s.2.3) ∧
              ((Value.int IntKind.i64 s.2.3 = Value.int IntKind.i64 s.2.3) ∧
              (br (s.2.3 != s.2.3)
               False
               (∃ g : GP2, ((Ok (GP2.t g)) ∧
               (((0 : Nat) = (0 : Nat)) ∧
               ((List.length g.1 = List.length l) ∧
               (((0 : Nat) = (0 : Nat)) ∧
               (((0 : Nat) = (0 : Nat)) ∧
               (((↑g.2 : Int) = (↑s.1 : Int)) ∧
               (((0 : Int) = (0 : Int)) ∧
               ((Eq (α := List Value) (gC enA g.1) (gC enA l)) ∧
               ((Plain (gC enA g.1)) ∧
               (((0 : Nat) = (0 : Nat)) ∧
               ((List.length g.3.1 = List.length s.2.1) ∧
               (((↑(smZ g.3.1 (List.length g.3.1)) : Int) = (↑(smZ s.2.1 (List.length s.2.1)) : Int)) ∧
               ((g.3.3 = s.2.3) ∧
               (((0 : Nat) = (0 : Nat)) ∧
               ((List.length g.3.1 = List.length s.2.1) ∧
               ((g.3.3 = s.2.3) ∧
               ((Eq (α := List Value) (gC enF (g.3.1 ++ g.3.2)) (gC enF (s.2.1 ++ s.2.2))) ∧
               ((Plain (gC enF (g.3.1 ++ g.3.2))) ∧
               ((Eq (α := List Value) (gC enF (g.3.1 ++ g.3.2)) (gC enF (s.2.1 ++ s.2.2))) ∧
               ((Plain (gC enF (g.3.1 ++ g.3.2))) ∧
               (∀ (y : Unit), ((True) →
               (∃ j : Nat × Tb, ((Inv j) ∧
               ((m j < m s) ∧
               (((0 : Nat) = (0 : Nat)) ∧
               ((List.length l = List.length g.1) ∧
               (((0 : Nat) = (0 : Nat)) ∧
               (((0 : Nat) = (0 : Nat)) ∧
               (((↑j.1 : Int) = IntKind.wrap IntKind.i64 ((↑g.2 : Int) + (1 : Int))) ∧
               ((Eq (α := List Value) (gC enA l) (gC enA g.1)) ∧
               ((Plain (gC enA l)) ∧
               (((0 : Nat) = (0 : Nat)) ∧
               ((List.length j.2.1 = List.length g.3.1) ∧
               (((↑(smZ j.2.1 (List.length j.2.1)) : Int) = (↑(smZ g.3.1 (List.length g.3.1)) : Int)) ∧
               ((j.2.3 = g.3.3) ∧
               (((0 : Nat) = (0 : Nat)) ∧
               ((List.length j.2.1 = List.length g.3.1) ∧
               ((j.2.3 = g.3.3) ∧
               ((Eq (α := List Value) (gC enF (j.2.1 ++ j.2.2)) (gC enF (g.3.1 ++ g.3.2))) ∧
               ((Plain (gC enF (j.2.1 ++ j.2.2))) ∧
               ((Eq (α := List Value) (gC enF (j.2.1 ++ j.2.2)) (gC enF (g.3.1 ++ g.3.2))) ∧
               ((Plain (gC enF (j.2.1 ++ j.2.2))) ∧
               True))))))))))))))))))))))))))))))))))))))))))))))))))))))))
          (br (Int.ofNat (List.length s.2.1) != Int.ofNat (List.length s.2.1))
           ((Value.slice (some (Addr.mk (4 : Nat) (0 : Nat) none)) (List.length s.2.1) (2 : Nat) = Value.slice (some (Addr.mk (4 : Nat) (0 : Nat) none)) (List.length s.2.1) (2 : Nat)) ∧
           ((Value.slice (some (Addr.mk (4 : Nat) (0 : Nat) none)) (List.length s.2.1) (2 : Nat) = Value.slice (some (Addr.mk (4 : Nat) (0 : Nat) none)) (List.length s.2.1) (2 : Nat)) ∧
           False))
           ((((True ∧ True) ∧ (((True ∧ (True ∧ True)) ∧ (Plain (gC enF (s.2.1 ++ s.2.2)) ∧ True)) ∧ ((Plain (gC enF (s.2.1 ++ s.2.2)) ∧ True) ∧ IsTr (Row.mk (gC enF (s.2.1 ++ s.2.2)) false (Ob.cells true)) (List.length s.2.1))))) ∧
           (br ((↑(smZ s.2.1 (List.length s.2.1)) : Int) != szR (Row.mk (gC enF (s.2.1 ++ s.2.2)) false (Ob.cells true)) (List.length s.2.1))
            ((Value.slice (some (Addr.mk (4 : Nat) (0 : Nat) none)) (List.length s.2.1) (2 : Nat) = Value.slice (some (Addr.mk (4 : Nat) (0 : Nat) none)) (List.length s.2.1) (2 : Nat)) ∧
            ((Value.slice (some (Addr.mk (4 : Nat) (0 : Nat) none)) (List.length s.2.1) (2 : Nat) = Value.slice (some (Addr.mk (4 : Nat) (0 : Nat) none)) (List.length s.2.1) (2 : Nat)) ∧
            False))
            ((Value.slice (some (Addr.mk (4 : Nat) (0 : Nat) none)) (List.length s.2.1) (2 : Nat) = Value.slice (some (Addr.mk (4 : Nat) (0 : Nat) none)) (List.length s.2.1) (2 : Nat)) ∧
            ((Value.slice (some (Addr.mk (4 : Nat) (0 : Nat) none)) (List.length s.2.1) (2 : Nat) = Value.slice (some (Addr.mk (4 : Nat) (0 : Nat) none)) (List.length s.2.1) (2 : Nat)) ∧
            ((Value.int IntKind.i64 s.2.3 = Value.int IntKind.i64 s.2.3) ∧
            ((Value.int IntKind.i64 s.2.3 = Value.int IntKind.i64 s.2.3) ∧
            (br (s.2.3 != s.2.3)
             False
             (∃ g : GP2, ((Ok (GP2.t g)) ∧
             (((0 : Nat) = (0 : Nat)) ∧
             ((List.length g.1 = List.length l) ∧
             (((0 : Nat) = (0 : Nat)) ∧
             (((0 : Nat) = (0 : Nat)) ∧
             (((↑g.2 : Int) = (↑s.1 : Int)) ∧
             (((0 : Int) = (0 : Int)) ∧
             ((Eq (α := List Value) (gC enA g.1) (gC enA l)) ∧
             ((Plain (gC enA g.1)) ∧
             (((0 : Nat) = (0 : Nat)) ∧
             ((List.length g.3.1 = List.length s.2.1) ∧
             (((↑(smZ g.3.1 (List.length g.3.1)) : Int) = (↑(smZ s.2.1 (List.length s.2.1)) : Int)) ∧
             ((g.3.3 = s.2.3) ∧
             (((0 : Nat) = (0 : Nat)) ∧
             ((List.length g.3.1 = List.length s.2.1) ∧
             ((g.3.3 = s.2.3) ∧
             ((Eq (α := List Value) (gC enF (g.3.1 ++ g.3.2)) (gC enF (s.2.1 ++ s.2.2))) ∧
             ((Plain (gC enF (g.3.1 ++ g.3.2))) ∧
             ((Eq (α := List Value) (gC enF (g.3.1 ++ g.3.2)) (gC enF (s.2.1 ++ s.2.2))) ∧
             ((Plain (gC enF (g.3.1 ++ g.3.2))) ∧
             (∀ (y : Unit), ((True) →
             (∃ j : Nat × Tb, ((Inv j) ∧
             ((m j < m s) ∧
             (((0 : Nat) = (0 : Nat)) ∧
             ((List.length l = List.length g.1) ∧
             (((0 : Nat) = (0 : Nat)) ∧
             (((0 : Nat) = (0 : Nat)) ∧
             (((↑j.1 : Int) = IntKind.wrap IntKind.i64 ((↑g.2 : Int) + (1 : Int))) ∧
             ((Eq (α := List Value) (gC enA l) (gC enA g.1)) ∧
             ((Plain (gC enA l)) ∧
             (((0 : Nat) = (0 : Nat)) ∧
             ((List.length j.2.1 = List.length g.3.1) ∧
             (((↑(smZ j.2.1 (List.length j.2.1)) : Int) = (↑(smZ g.3.1 (List.length g.3.1)) : Int)) ∧
             ((j.2.3 = g.3.3) ∧
             (((0 : Nat) = (0 : Nat)) ∧
             ((List.length j.2.1 = List.length g.3.1) ∧
             ((j.2.3 = g.3.3) ∧
             ((Eq (α := List Value) (gC enF (j.2.1 ++ j.2.2)) (gC enF (g.3.1 ++ g.3.2))) ∧
             ((Plain (gC enF (j.2.1 ++ j.2.2))) ∧
             ((Eq (α := List Value) (gC enF (j.2.1 ++ j.2.2)) (gC enF (g.3.1 ++ g.3.2))) ∧
             ((Plain (gC enF (j.2.1 ++ j.2.2))) ∧
             True)))))))))))))))))))))))))))))))))))))))))))))))))))))))))))))
     False)
    (∃ y : Unit, ((True) ∧
    (((0 : Nat) = (0 : Nat)) ∧
    ((List.length l = List.length l) ∧
    ((Eq (α := List Value) (gC enA l) (gC enA l)) ∧
    ((Plain (gC enA l)) ∧
    True)))))))
   (∃ y : Unit, ((True) ∧
   (((0 : Nat) = (0 : Nat)) ∧
   ((List.length l = List.length l) ∧
   ((Eq (α := List Value) (gC enA l) (gC enA l)) ∧
   ((Plain (gC enA l)) ∧
   True))))))) := by kernel_rfl
theorem Pl_vc (most : Int) (l : List Asx) : mcall EtPl mP1 60 4 [.int .i64 most, .slice (some ⟨0, 0, none⟩) l.length 4] ⟨mkR (nums 0 [gRo enA l]), 1⟩ (retIs 1 (.bool true) [gRo enA l]) =
  (br (decide (most < (0 : Int)))
   (br (decide (most < (0 : Int)))
    (∃ g : List Asx, ((True) ∧
    (((0 : Nat) = (0 : Nat)) ∧
    ((List.length g = List.length l) ∧
    (((0 : Int) = (0 : Int)) ∧
    ((Eq (α := List Value) (gC enA g) (gC enA l)) ∧
    ((Plain (gC enA g)) ∧
    (∀ (y : Unit), ((True) →
    (((True ∧ (True ∧ (True ∧ True)))) ∧
    ((true = true) ∧
    ((Eq (α := List Value) (gC enA l) (gC enA g)) ∧
    ((Plain (gC enA l)) ∧
    True)))))))))))))
    (br (decide (most > (65536 : Int)))
     (∃ g : List Asx, ((True) ∧
     (((0 : Nat) = (0 : Nat)) ∧
     ((List.length g = List.length l) ∧
     (((0 : Int) = (0 : Int)) ∧
     ((Eq (α := List Value) (gC enA g) (gC enA l)) ∧
     ((Plain (gC enA g)) ∧
     (∀ (y : Unit), ((True) →
     (((True ∧ (True ∧ (True ∧ True)))) ∧
     ((true = true) ∧
     ((Eq (α := List Value) (gC enA l) (gC enA g)) ∧
     ((Plain (gC enA l)) ∧
     True)))))))))))))
     ((true = false) ∧
     ((Eq (α := List Value) (gC enA l) (gC enA l)) ∧
     ((Plain (gC enA l)) ∧
     True)))))
   (br (decide (most > (65536 : Int)))
    (br (decide (most < (0 : Int)))
     (∃ g : List Asx, ((True) ∧
     (((0 : Nat) = (0 : Nat)) ∧
     ((List.length g = List.length l) ∧
     (((0 : Int) = (0 : Int)) ∧
     ((Eq (α := List Value) (gC enA g) (gC enA l)) ∧
     ((Plain (gC enA g)) ∧
     (∀ (y : Unit), ((True) →
     (((True ∧ (True ∧ (True ∧ True)))) ∧
     ((true = true) ∧
     ((Eq (α := List Value) (gC enA l) (gC enA g)) ∧
     ((Plain (gC enA l)) ∧
     True)))))))))))))
     (br (decide (most > (65536 : Int)))
      (∃ g : List Asx, ((True) ∧
      (((0 : Nat) = (0 : Nat)) ∧
      ((List.length g = List.length l) ∧
      (((0 : Int) = (0 : Int)) ∧
      ((Eq (α := List Value) (gC enA g) (gC enA l)) ∧
      ((Plain (gC enA g)) ∧
      (∀ (y : Unit), ((True) →
      (((True ∧ (True ∧ (True ∧ True)))) ∧
      ((true = true) ∧
      ((Eq (α := List Value) (gC enA l) (gC enA g)) ∧
      ((Plain (gC enA l)) ∧
      True)))))))))))))
      ((true = false) ∧
      ((Eq (α := List Value) (gC enA l) (gC enA l)) ∧
      ((Plain (gC enA l)) ∧
      True)))))
    (br (decide (most < (0 : Int)))
     ((true = false) ∧
     ((Eq (α := List Value) (gC enA l) (gC enA l)) ∧
     ((Plain (gC enA l)) ∧
     True)))
     (br (decide (most > (65536 : Int)))
      ((true = false) ∧
      ((Eq (α := List Value) (gC enA l) (gC enA l)) ∧
      ((Plain (gC enA l)) ∧
      True)))
      (∃ g : GTw, (((∀ (a : Asx), a ∈ GTw.l g → (I64 (Asx.k a) ∧ I64 (Asx.n a)) ∧ List.length (Fl.n (Asx.f a)) ≤ (1048576 : Nat) ∧ List.length (Fl.v (Asx.f a)) ≤ (1048576 : Nat)) ∧ (0 : Int) ≤ g.2 ∧ g.2 ≤ (65536 : Int)) ∧
      (((0 : Nat) = (0 : Nat)) ∧
      ((List.length g.1 = List.length l) ∧
      (((0 : Nat) = (0 : Nat)) ∧
      (((0 : Nat) = (0 : Nat)) ∧
      (((0 : Int) = (0 : Int)) ∧
      ((Eq (α := List Value) (gC enA g.1) (gC enA l)) ∧
      ((Plain (gC enA g.1)) ∧
      (((0 : Nat) = (0 : Nat)) ∧
      (((↑(smZ [] (0 : Nat)) : Int) = (0 : Int)) ∧
      ((g.2 = most) ∧
      (((0 : Nat) = (0 : Nat)) ∧
      ((g.2 = most) ∧
      ((Eq (α := List Value) ([]) ([])) ∧
      ((Eq (α := List Value) ([]) ([])) ∧
      (∀ (y : Unit), ((True) →
      (((True ∧ (True ∧ (True ∧ True)))) ∧
      ((true = true) ∧
      ((Eq (α := List Value) (gC enA l) (gC enA g.1)) ∧
      ((Plain (gC enA l)) ∧
      True)))))))))))))))))))))))))) := by kernel_rfl
theorem tPl_ok : ∀ x ∈ tPl, EntOk Try.prog x := all_cons eRunsT_ok (all_cons eAddT_ok (all_cons eResT_ok (all_cons eGetT_ok (all_cons eFndT_ok (all_cons eAddR_ok (all_cons eResR_ok (all_cons eGetR_ok (all_cons eFndR_ok (all_cons eSzR_ok (all_nil))))))))))
theorem bqS (a : ByteArray) : (a == a) = true := by
  have := bq_bs (L a) (L a)
  rw [bsL] at this
  rw [this]; simp
theorem P2_piece : PieceOk EtPl 1 (4, pP2, specP2) := by
  refine piece_loop mixed (calls_envT tPl_ok) (lok_envT _ _) lm_none (n := 60) (by kernel_rfl) (fun _ : GP2 => 0) (fun g k => k ≤ g.t.l.length) (fun g k => g.t.l.length - k) (sl := slP2) (rl := fun g _ => rlP g.l g.t) (fun g hg => Nat.zero_le _) (fun g k hg hi => ?_)
  refine (P2_round g k _ _).mpr ?_
  obtain ⟨al, si, ⟨tl, tj, tm⟩⟩ := g
  simp only at hi hg
  obtain ⟨g1, g2, g3⟩ := hg
  simp only at g1 g2 g3
  have hl := ok_len tl
  have w2 : IntKind.i64.wrap ((k : Int) + 1) = ((k + 1 : Nat) : Int) := by rw [wr64_id (by unfold I64; omega)]; omega
  have w1 : IntKind.i64.wrap (62 + (k : Int)) = ((k + 62 : Nat) : Int) := by rw [wr64_id (by unfold I64; omega)]; omega
  obtain ⟨e1, e2, e3⟩ := gf_mk tl tj false (.cells true) ((k + 62 : Nat) : Int)
  simp only [ofNat_eq, toNat_cast, Nat.zero_add, Nat.add_zero, Nat.mul_one, List.drop_zero, bCells_len, bCells_drop, bCells_take, bCells_app, bCells_one, bCells_plain, List.length_replicate, List.length_append, List.length_take, List.length_drop, List.take_length, and_true, true_and, and_self, decide_true, List.length_nil, List.length_cons, Nat.sub_zero, dB_mk, dB_ro, List.take_zero, z_smZ, asPl, fPl, w1, w2, e1, e2, e3]
  refine br_if (fun h => ?_) (fun h => ⟨(), trivial⟩)
  have hk : k < tl.length := by omega
  have hn : (((k + 62 : Nat) : Int) - 62).toNat < tl.length := by omega
  have hq : (((k + 62 : Nat) : Int) - 62).toNat = k := by omega
  have ok : getF tl ((k + 62 : Nat) : Int) = (tl[k], true) := by
    unfold getF; rw [if_neg (by omega), if_pos hn]; congr 1
    rw [hq, List.getD_eq_getElem?_getD, List.getElem?_eq_getElem hk]; rfl
  have hk2 : k < (tl ++ tj).length := by rw [List.length_append]; omega
  have hge : (tl ++ tj)[k] = tl[k] := List.getElem_append_left hk
  obtain ⟨c1, c2, c3, c4⟩ := fGet (tl ++ tj) k hk2
  rw [hge] at c1 c2 c3 c4
  rw [ok, c3, c4]
  exact ⟨⟨isTg_mk _ _ (by omega), by unfold I64; omega⟩, br_nb rfl (br_dec (by omega) ⟨c1, c2, c1, c2, br_nb (by simp [bq_bs]) ⟨k + 1, by omega, by omega, rfl⟩⟩)⟩
theorem PN_piece : PieceOk EtPl 1 (4, pP1, specPN) := by
  refine piece_loop mixed (calls_envT tPl_ok) (lok_envT _ _) lm_none (n := 60) (by kernel_rfl) (fun _ : List Asx => 0) (fun _ i => i = 0) (fun _ _ => 0) (sl := slN) (rl := fun g _ => [(0, gRo enA g)]) (fun g hg => rfl) (fun g i hg hi => ?_)
  refine (PN_round g i _ _).mpr ?_
  simp only [ofNat_eq, toNat_cast, Nat.zero_add, Nat.add_zero, Nat.mul_one, List.drop_zero, bCells_len, bCells_drop, bCells_take, bCells_app, bCells_one, bCells_plain, List.length_replicate, List.length_append, List.length_take, List.length_drop, List.take_length, and_true, true_and, and_self, decide_true, List.length_nil, List.length_cons, Nat.sub_zero, dB_mk, dB_ro, List.take_zero, asPl]
  exact br_if (fun _ => br_if (fun _ => ⟨(), trivial⟩) (fun _ => ⟨(), trivial⟩)) (fun _ => ⟨(), trivial⟩)
theorem P1_piece : PieceOk EtPl 1 (4, pP1, specP1) := by
  refine piece_loop mixed (calls_envT tPl_ok) (lok_envT _ _) (lm_one P2_piece) (n := 60) (by kernel_rfl) (fun g : GTw => ((0, ⟨[], [], g.m⟩) : Nat × Tb)) (fun g s => s.1 ≤ g.l.length ∧ Ok s.2) (fun g s => g.l.length - s.1) (sl := fun g s => slP g.l s.1) (rl := fun g s => rlP g.l s.2) (fun g hg => ⟨Nat.zero_le _, ⟨hg.2.1, hg.2.1, hg.2.2⟩⟩) (fun g s hg hi => ?_)
  obtain ⟨h1, h2⟩ := hi
  obtain ⟨hg, _⟩ := hg
  refine (P1_round g.l s _ _).mpr ?_
  obtain ⟨i, tl, tj, tm⟩ := s
  simp only at h1 h2
  have one : ∀ l : List Fl, smN (l.take l.length) = smN l := fun l => by rw [List.take_length]
  have rN : ∀ l j m k, rsN ⟨gC enF (l ++ j), false, .cells true⟩ l.length m k = (rsT ⟨l, j, m⟩ k).l.length := fun l j m k => (rs_mk l j m k).1
  have rS : ∀ l j m k, rsS ⟨gC enF (l ++ j), false, .cells true⟩ l.length m k = (smN (rsT ⟨l, j, m⟩ k).l : Nat) := fun l j m k => (rs_mk l j m k).2.1
  have rC : ∀ l j m k, rsC ⟨gC enF (l ++ j), false, .cells true⟩ l.length m k = gC enF ((rsT ⟨l, j, m⟩ k).l ++ (rsT ⟨l, j, m⟩ k).j) := fun l j m k => (rs_mk l j m k).2.2
  have aN : ∀ l j m a b, adN ⟨gC enF (l ++ j), false, .cells true⟩ l.length m (bs a) (bs b) = (addT ⟨l, j, m⟩ ⟨a, b⟩).l.length := fun l j m a b => (ad_mk l j m a b).1
  have aS : ∀ l j m a b, adS ⟨gC enF (l ++ j), false, .cells true⟩ l.length m (bs a) (bs b) = (smN (addT ⟨l, j, m⟩ ⟨a, b⟩).l : Nat) := fun l j m a b => (ad_mk l j m a b).2.1
  have aC : ∀ l j m a b, adC ⟨gC enF (l ++ j), false, .cells true⟩ l.length m (bs a) (bs b) = gC enF ((addT ⟨l, j, m⟩ ⟨a, b⟩).l ++ (addT ⟨l, j, m⟩ ⟨a, b⟩).j) := fun l j m a b => (ad_mk l j m a b).2.2
  simp only [ofNat_eq, toNat_cast, Nat.zero_add, Nat.add_zero, Nat.mul_one, List.drop_zero, bCells_len, bCells_drop, bCells_take, bCells_app, bCells_one, bCells_plain, List.length_replicate, List.length_append, List.length_take, List.length_drop, List.take_length, and_true, true_and, and_self, decide_true, List.length_nil, List.length_cons, Nat.sub_zero, dB_mk, dB_ro, List.take_zero, z_smZ, asPl, fPl, one]
  refine br_if (fun h => br_if (fun h60 => br_dec (by omega) ?_) (fun h60 => ⟨(), trivial⟩)) (fun h => ⟨(), trivial⟩)
  have hi : i < g.l.length := by omega
  obtain ⟨c0, c1, c2, c3, d0, d1, d2, d3⟩ := asGet2 g.l i hi
  have e2 : (bs g.l[i].f.n).data.toList.length = g.l[i].f.n.length := bs_len _
  have e3 : (bs g.l[i].f.v).data.toList.length = g.l[i].f.v.length := bs_len _
  obtain ⟨⟨l0, l3⟩, l1, l2⟩ := hg _ (List.getElem_mem hi)
  have wl : IntKind.i64.wrap ((g.l[i].f.n.length : Int) + (g.l[i].f.v.length : Int)) = (g.l[i].f.n.length : Int) + (g.l[i].f.v.length : Int) := wr64_id (by unfold I64; omega)
  have w1 : IntKind.i64.wrap ((i : Int) + 1) = ((i + 1 : Nat) : Int) := by rw [wr64_id (by unfold I64; omega)]; omega
  have ib := isTb_mk ⟨tl, tj, tm⟩ h2
  simp only at ib
  have hM : rsM tm g.l[i].n = (rsT ⟨tl, tj, tm⟩ g.l[i].n).most := by rw [z_rsM, rsT_m]
  have sz := sz_mk tl tj false (.cells true) tl.length (Nat.le_refl _)
  rw [List.take_length] at sz
  simp only [c0, c1, c2, c3, d0, d1, d2, d3, rN, rS, rC, aN, aS, aC, hM, true_and, fPl, sz]
  have hk : IntKind.i64.wrap (((bs g.l[i].f.n).data.toList.length : Int) + ((bs g.l[i].f.v).data.toList.length : Int)) = (g.l[i].f.n.length : Int) + (g.l[i].f.v.length : Int) := by rw [e2, e3, wl]
  rw [hk]
  have hl' := ok_len tl
  have hle : tl.length ≤ 16777216 ∧ smN tl ≤ 500000000 := by obtain ⟨q0, q1, q2⟩ := h2; simp only at q0 q1 q2; omega
  have it := isTg_mk tl tj hle.1
  have ir : IsTr ⟨gC enF (tl ++ tj), false, .cells true⟩ tl.length := ⟨tl, tj, rfl, Nat.le_refl _, hle.1, by omega⟩
  refine br_if (fun hb => ?_) (fun hb => br_intro (fun hk => ⟨⟨ib, ?_⟩, ⟨ib, ?_⟩, ?_⟩) (fun hk => br_intro (fun hk2 => ⟨ib, ib, br_nb (by simp) ?_⟩) (fun hk2 => br_intro (fun hk3 => ⟨⟨it, l3⟩, ⟨it, l3⟩, br_nb (by simp [bqS]) (br_nb (by simp) ?_)⟩) (fun hk3 => br_intro (fun hk4 => ⟨it, it, br_nb (by simp) (br_nb (by simp) ?_)⟩) (fun hk4 => ?_)))))
  · exact ⟨(i + 1, ⟨tl, tj, tm⟩), ⟨by simp only; omega, h2⟩, by simp only; omega, w1.symm, rfl, rfl, rfl, rfl, rfl, rfl⟩
  · rw [z_fbZ]; unfold fbN; rw [L_bs, L_bs]; obtain ⟨q0, q1, q2⟩ := h2; simp only at q0 q1 q2; simp only; omega
  · rw [z_fbZ]; unfold fbN; rw [L_bs, L_bs]; obtain ⟨q0, q1, q2⟩ := h2; simp only at q0 q1 q2; simp only; omega
  · have hO := ok_ad ⟨tl, tj, tm⟩ ⟨g.l[i].f.n, g.l[i].f.v⟩ h2
    have hA : (addT ⟨tl, tj, tm⟩ ⟨g.l[i].f.n, g.l[i].f.v⟩).most = tm := addT_m _ _
    generalize addT ⟨tl, tj, tm⟩ ⟨g.l[i].f.n, g.l[i].f.v⟩ = u at hO hA ⊢
    obtain ⟨o1, o2, o3⟩ := hO
    have hlu := ok_len u.l
    have szu := sz_mk u.l u.j false (.cells true) u.l.length (Nat.le_refl _)
    rw [List.take_length] at szu
    rw [szu]
    exact br_nb (by simp) ⟨⟨u.l, u.j, rfl, Nat.le_refl _, by omega, by omega⟩, br_nb (by simp) (br_nb (by simp) ⟨⟨g.l, i, u⟩, ⟨o1, o2, o3⟩, rfl, rfl, rfl, rfl, rfl, hA, rfl, hA, rfl, rfl, fun _ _ => ⟨(i + 1, u), ⟨by simp only; omega, ⟨o1, o2, o3⟩⟩, by simp only; omega, rfl, w1.symm, rfl, rfl, rfl, rfl, rfl, rfl, rfl⟩⟩)⟩
  · have hO := ok_rs ⟨tl, tj, tm⟩ g.l[i].n h2
    generalize rsT ⟨tl, tj, tm⟩ g.l[i].n = u at hO ⊢
    obtain ⟨o1, o2, o3⟩ := hO
    have hlu := ok_len u.l
    have szu := sz_mk u.l u.j false (.cells true) u.l.length (Nat.le_refl _)
    rw [List.take_length] at szu
    rw [szu]
    exact br_nb (by simp) ⟨⟨u.l, u.j, rfl, Nat.le_refl _, by omega, by omega⟩, br_nb (by simp) (br_nb (by simp) ⟨⟨g.l, i, u⟩, ⟨o1, o2, o3⟩, rfl, rfl, rfl, rfl, rfl, rfl, rfl, rfl, rfl, rfl, fun _ _ => ⟨(i + 1, u), ⟨by simp only; omega, ⟨o1, o2, o3⟩⟩, by simp only; omega, rfl, w1.symm, rfl, rfl, rfl, rfl, rfl, rfl, rfl⟩⟩)⟩
  all_goals exact br_nb (by simp) ⟨ir, br_nb (by simp) (br_nb (by simp) ⟨⟨g.l, i, ⟨tl, tj, tm⟩⟩, h2, rfl, rfl, rfl, rfl, rfl, rfl, rfl, rfl, rfl, rfl, fun _ _ => ⟨(i + 1, ⟨tl, tj, tm⟩), ⟨by simp only; omega, h2⟩, by simp only; omega, rfl, w1.symm, rfl, rfl, rfl, rfl, rfl, rfl, rfl⟩⟩)⟩
theorem P_piece : PieceOk EtPl 1 (4, pP1, specP) := by
  intro fn c0 c h1 h2 h3 fr u h K hs
  simp only [specP] at hs
  split at hs
  · exact PN_piece fn c0 c h1 h2 h3 fr u h K hs
  · exact P1_piece fn c0 c h1 h2 h3 fr u h K hs
theorem Pl_law (most : Int) (l : List Asx) (hm : I64 most) (hl : l.length ≤ 1048576) (h : ∀ a ∈ l, (I64 a.k ∧ I64 a.n) ∧ a.f.n.length ≤ 1048576 ∧ a.f.v.length ≤ 1048576) : Con Try.prog 4 [.int .i64 most, .slice (some ⟨0, 0, none⟩) l.length 4] [gRo enA l] (.bool true) [gRo enA l] := by
  refine con_vc (E := EtPl) mixed (calls_envT tPl_ok) (lok_envT _ _) (M := mP1) (lm_one P_piece) (Pl_vc most l) ?_
  simp only [ofNat_eq, toNat_cast, Nat.zero_add, Nat.add_zero, Nat.mul_one, List.drop_zero, bCells_len, bCells_drop, bCells_take, bCells_app, bCells_one, bCells_plain, List.length_replicate, List.length_append, List.length_take, List.length_drop, List.take_length, and_true, true_and, and_self, decide_true, List.length_nil, List.length_cons, Nat.sub_zero, dB_mk, dB_ro, List.take_zero, z_smZ, asPl, fPl]
  have bad : ∃ g : List Asx, g.length = l.length ∧ gC enA g = gC enA l ∧ ∀ (y : Unit), True → gC enA l = gC enA g := ⟨l, rfl, rfl, fun _ _ => rfl⟩
  refine br_if (fun h1 => br_dec h1 bad) (fun h1 => br_if (fun h2 => br_nd h1 (br_dec h2 bad)) (fun h2 => br_nd h1 (br_nd h2 ⟨⟨l, most⟩, ⟨h, by simp only; omega, by simp only; omega⟩, rfl, rfl, rfl, rfl, rfl, fun _ _ => rfl⟩)))
end Go.Proofs.Ytpfigiokmcojeaa.tb
