/- The law: each field that is there is found, by a number at which it is; none is found at a number that isn't there. -/
import Derived.Test.YtpfigiokmcojeaaSz9
import Derived.Test.YtpfigiokmcojeaaRows
import Derived.Test.YtpfigiokmcojeaaLlawTb
set_option linter.unusedSimpArgs false
set_option linter.unusedVariables false
namespace Go.Proofs.Ytpfigiokmcojeaa.tb
open Go Go.Ev Go.Sy Go.RowKit Go.Proofs.Ytpfigiokmcojeaa.gl Go.Proofs.Ytpfigiokmcojeaa.tk
def pF1 : List Nat := [0, 1, 0, 1, 1, 1]
def pF2 : List Nat := [0, 1, 0, 1, 1, 1, 1]
structure GT where
  l : List Asx
  f : Fl
  m : Int
structure GT2 where
  l : List Asx
  f : Fl
  t : Tb
noncomputable def rlF1 (l : List Asx) (f : Fl) (t : Tb) : List (Nat × Row) := [(0, gRo enA l), (1, ⟨[.string (bs f.n), .string (bs f.v)], false, .cells false⟩), (2, ⟨[.slice (some ⟨3, 0, none⟩) t.l.length 2, .int .i64 (smZ t.l t.l.length : Nat), .int .i64 t.most], false, .cells false⟩), (3, gOwn enF (t.l ++ t.j))]
noncomputable def slF0 (l : List Asx) : List (Nat × Value) := [(1, .slice (some ⟨0, 0, none⟩) l.length 4), (5, .pointer (some ⟨1, 0, none⟩)), (7, .pointer (some ⟨2, 0, none⟩))]
noncomputable def slF1 (g : GT) (s : Nat × Tb) : List (Nat × Value) := slF0 g.l ++ [(9, .int .i64 (s.1 : Nat))]
noncomputable def wsF1 (g : GT) : List (Gate Tb) := [⟨.exit 0, fun t => Ok t, fun _ => slF0 g.l, fun t => rlF1 g.l g.f t, 4⟩]
noncomputable def specF1 : Sy.Spec := specOf 1 4 171 (fun g : GT => (∀ a ∈ g.l, a.f.n.length ≤ 1048576 ∧ a.f.v.length ≤ 1048576) ∧ 0 ≤ g.m ∧ g.m ≤ 65536) (fun g => slF1 g (0, ⟨[], [], g.m⟩)) (fun g => rlF1 g.l g.f ⟨[], [], g.m⟩) wsF1
noncomputable def slF2 (g : GT2) (k : Nat) : List (Nat × Value) := slF0 g.l ++ [(10, .int .i64 (k : Nat))]
noncomputable def wsF2 (g : GT2) : List (Gate Unit) := [⟨.exit 2, fun _ => True, fun _ => slF0 g.l, fun _ => rlF1 g.l g.f g.t, 4⟩]
noncomputable def specF2 : Sy.Spec := specOf 1 4 171 (fun g : GT2 => Ok g.t) (fun g => slF2 g 1) (fun g => rlF1 g.l g.f g.t) wsF2
noncomputable def mFd := mOf [(7, pF1, specF1), (7, pF2, specF2)]
noncomputable def tFd : List EntM := [eWiT, eRunsT, eAddT, eGetT, eFndT]
noncomputable abbrev EtFd : Env := envT Try.prog tFd
theorem F1_round (g : GT) (s : Nat × Tb) (Inv : Nat × Tb → Prop) (m : Nat × Tb → Nat) : mev EtFd noM 60 7 (0 :: pF1) false (codeOf Try.prog 7 (0 :: pF1)) ⟨mkOv (slF1 g s), 171, []⟩ none ⟨mkR (rlF1 g.l g.f s.2), 4⟩ (roundK 1 4 171 Inv m (slF1 g) (fun s => rlF1 g.l g.f s.2) (wsF1 g) s) =
  (br (decide ((↑s.1 : Int) < Int.ofNat (List.length g.1)))
   (br (decide ((↑s.1 : Int) < (40 : Int)))
    (br (decide ((0 : Int) ≤ (↑s.1 : Int) ∧ (↑s.1 : Int) < (↑(List.length g.1) : Int)))
     ((Eq (α := Option Value) ((gC enA g.1)[(0 : Nat) + Int.toNat (↑s.1 : Int) * (4 : Nat) + (2 : Nat) + (0 : Nat)]?) (some (Value.string (cellS (gC enA g.1) ((0 : Nat) + Int.toNat (↑s.1 : Int) * (4 : Nat) + (2 : Nat) + (0 : Nat)))))) ∧
     (br (decide ((0 : Int) ≤ (↑s.1 : Int) ∧ (↑s.1 : Int) < (↑(List.length g.1) : Int)))
      ((Eq (α := Option Value) ((gC enA g.1)[(0 : Nat) + Int.toNat (↑s.1 : Int) * (4 : Nat) + (2 : Nat) + (1 : Nat)]?) (some (Value.string (cellS (gC enA g.1) ((0 : Nat) + Int.toNat (↑s.1 : Int) * (4 : Nat) + (2 : Nat) + (1 : Nat)))))) ∧
      ((Eq (α := Option Value) ((gC enA g.1)[(0 : Nat) + Int.toNat (↑s.1 : Int) * (4 : Nat) + (2 : Nat) + (0 : Nat)]?) (some (Value.string (cellS (gC enA g.1) ((0 : Nat) + Int.toNat (↑s.1 : Int) * (4 : Nat) + (2 : Nat) + (0 : Nat)))))) ∧
      ((Value.string (cellS (gC enA g.1) ((0 : Nat) + Int.toNat (↑s.1 : Int) * (4 : Nat) + (2 : Nat) + (0 : Nat))) = Value.string (cellS (gC enA g.1) ((0 : Nat) + Int.toNat (↑s.1 : Int) * (4 : Nat) + (2 : Nat) + (0 : Nat)))) ∧
      ((Eq (α := Option Value) ((gC enA g.1)[(0 : Nat) + Int.toNat (↑s.1 : Int) * (4 : Nat) + (2 : Nat) + (1 : Nat)]?) (some (Value.string (cellS (gC enA g.1) ((0 : Nat) + Int.toNat (↑s.1 : Int) * (4 : Nat) + (2 : Nat) + (1 : Nat)))))) ∧
      ((Value.string (cellS (gC enA g.1) ((0 : Nat) + Int.toNat (↑s.1 : Int) * (4 : Nat) + (2 : Nat) + (1 : Nat))) = Value.string (cellS (gC enA g.1) ((0 : Nat) + Int.toNat (↑s.1 : Int) * (4 : Nat) + (2 : Nat) + (1 : Nat)))) ∧
      (br (decide (IntKind.wrap IntKind.i64 (Int.ofNat (List.length (Array.toList (ByteArray.data (cellS (gC enA g.1) ((0 : Nat) + Int.toNat (↑s.1 : Int) * (4 : Nat) + (2 : Nat) + (0 : Nat)))))) + Int.ofNat (List.length (Array.toList (ByteArray.data (cellS (gC enA g.1) ((0 : Nat) + Int.toNat (↑s.1 : Int) * (4 : Nat) + (2 : Nat) + (1 : Nat))))))) ≤ (1000 : Int)))
       (br (decide ((0 : Int) ≤ (↑s.1 : Int) ∧ (↑s.1 : Int) < (↑(List.length g.1) : Int)))
        ((Eq (α := Option Value) ((gC enA g.1)[(0 : Nat) + Int.toNat (↑s.1 : Int) * (4 : Nat) + (2 : Nat)]?) (some (Value.string (cellS (gC enA g.1) ((0 : Nat) + Int.toNat (↑s.1 : Int) * (4 : Nat) + (2 : Nat)))))) ∧
        ((Eq (α := Option Value) ((gC enA g.1)[(0 : Nat) + Int.toNat (↑s.1 : Int) * (4 : Nat) + (2 : Nat) + (1 : Nat)]?) (some (Value.string (cellS (gC enA g.1) ((0 : Nat) + Int.toNat (↑s.1 : Int) * (4 : Nat) + (2 : Nat) + (1 : Nat)))))) ∧
        ((((True ∧ ((True ∧ (True ∧ True)) ∧ True)) ∧ (((True ∧ (True ∧ (True ∧ True))) ∧ (Plain (gC enF (s.2.1 ++ s.2.2)) ∧ True)) ∧ ((Plain (adC (Row.mk (gC enF (s.2.1 ++ s.2.2)) false (Ob.cells true)) (List.length s.2.1) s.2.3 (cellS (gC enA g.1) ((0 : Nat) + Int.toNat (↑s.1 : Int) * (4 : Nat) + (2 : Nat))) (cellS (gC enA g.1) ((0 : Nat) + Int.toNat (↑s.1 : Int) * (4 : Nat) + (2 : Nat) + (1 : Nat)))) ∧ True) ∧ (IsTb (Row.mk (gC enF (s.2.1 ++ s.2.2)) false (Ob.cells true)) (List.length s.2.1) (↑(smZ s.2.1 (List.length s.2.1)) : Int) ∧ (fbZ (cellS (gC enA g.1) ((0 : Nat) + Int.toNat (↑s.1 : Int) * (4 : Nat) + (2 : Nat))) (cellS (gC enA g.1) ((0 : Nat) + Int.toNat (↑s.1 : Int) * (4 : Nat) + (2 : Nat) + (1 : Nat))) ≤ (100000000 : Nat) ∧ ((0 : Int) ≤ s.2.3 ∧ s.2.3 ≤ (100000000 : Int)))))))) ∧
        (∃ j : Nat × Tb, ((Inv j) ∧
        ((m j < m s) ∧
        (((0 : Nat) = (0 : Nat)) ∧
        ((List.length g.1 = List.length g.1) ∧
        (((0 : Nat) = (0 : Nat)) ∧
        (((0 : Nat) = (0 : Nat)) ∧
        (((↑j.1 : Int) = IntKind.wrap IntKind.i64 ((↑s.1 : Int) + (1 : Int))) ∧
        ((Eq (α := List Value) (gC enA g.1) (gC enA g.1)) ∧
        ((Plain (gC enA g.1)) ∧
        ((bs g.2.1 = bs g.2.1) ∧
        ((bs g.2.2 = bs g.2.2) ∧
        (((0 : Nat) = (0 : Nat)) ∧
        ((List.length j.2.1 = adN (Row.mk (gC enF (s.2.1 ++ s.2.2)) false (Ob.cells true)) (List.length s.2.1) s.2.3 (cellS (gC enA g.1) ((0 : Nat) + Int.toNat (↑s.1 : Int) * (4 : Nat) + (2 : Nat))) (cellS (gC enA g.1) ((0 : Nat) + Int.toNat (↑s.1 : Int) * (4 : Nat) + (2 : Nat) + (1 : Nat)))) ∧
        (((↑(smZ j.2.1 (List.length j.2.1)) : Int) = adS (Row.mk (gC enF (s.2.1 ++ s.2.2)) false (Ob.cells true)) (List.length s.2.1) s.2.3 (cellS (gC enA g.1) ((0 : Nat) + Int.toNat (↑s.1 : Int) * (4 : Nat) + (2 : Nat))) (cellS (gC enA g.1) ((0 : Nat) + Int.toNat (↑s.1 : Int) * (4 : Nat) + (2 : Nat) + (1 : Nat)))) ∧
        ((j.2.3 = s.2.3) ∧
        ((Eq (α := List Value) (gC enF (j.2.1 ++ j.2.2)) (adC (Row.mk (gC enF (s.2.1 ++ s.2.2)) false (Ob.cells true)) (List.length s.2.1) s.2.3 (cellS (gC enA g.1) ((0 : Nat) + Int.toNat (↑s.1 : Int) * (4 : Nat) + (2 : Nat))) (cellS (gC enA g.1) ((0 : Nat) + Int.toNat (↑s.1 : Int) * (4 : Nat) + (2 : Nat) + (1 : Nat))))) ∧
        ((Plain (gC enF (j.2.1 ++ j.2.2))) ∧
        True)))))))))))))))))))))
        False)
       (∃ j : Nat × Tb, ((Inv j) ∧
       ((m j < m s) ∧
       (((0 : Nat) = (0 : Nat)) ∧
       ((List.length g.1 = List.length g.1) ∧
       (((0 : Nat) = (0 : Nat)) ∧
       (((0 : Nat) = (0 : Nat)) ∧
       (((↑j.1 : Int) = IntKind.wrap IntKind.i64 ((↑s.1 : Int) + (1 : Int))) ∧
       ((Eq (α := List Value) (gC enA g.1) (gC enA g.1)) ∧
       ((Plain (gC enA g.1)) ∧
       ((bs g.2.1 = bs g.2.1) ∧
       ((bs g.2.2 = bs g.2.2) ∧
       (((0 : Nat) = (0 : Nat)) ∧
       ((List.length j.2.1 = List.length s.2.1) ∧
       (((↑(smZ j.2.1 (List.length j.2.1)) : Int) = (↑(smZ s.2.1 (List.length s.2.1)) : Int)) ∧
       ((j.2.3 = s.2.3) ∧
       ((Eq (α := List Value) (gC enF (j.2.1 ++ j.2.2)) (gC enF (s.2.1 ++ s.2.2))) ∧
       ((Plain (gC enF (j.2.1 ++ j.2.2))) ∧
       True))))))))))))))))))))))))
      False))
     False)
    (∃ y : Tb, ((Ok y) ∧
    (((0 : Nat) = (0 : Nat)) ∧
    ((List.length g.1 = List.length g.1) ∧
    (((0 : Nat) = (0 : Nat)) ∧
    (((0 : Nat) = (0 : Nat)) ∧
    ((Eq (α := List Value) (gC enA g.1) (gC enA g.1)) ∧
    ((Plain (gC enA g.1)) ∧
    ((bs g.2.1 = bs g.2.1) ∧
    ((bs g.2.2 = bs g.2.2) ∧
    (((0 : Nat) = (0 : Nat)) ∧
    ((List.length y.1 = List.length s.2.1) ∧
    (((↑(smZ y.1 (List.length y.1)) : Int) = (↑(smZ s.2.1 (List.length s.2.1)) : Int)) ∧
    ((y.3 = s.2.3) ∧
    ((Eq (α := List Value) (gC enF (y.1 ++ y.2)) (gC enF (s.2.1 ++ s.2.2))) ∧
    ((Plain (gC enF (y.1 ++ y.2))) ∧
    True)))))))))))))))))
   (∃ y : Tb, ((Ok y) ∧
   (((0 : Nat) = (0 : Nat)) ∧
   ((List.length g.1 = List.length g.1) ∧
   (((0 : Nat) = (0 : Nat)) ∧
   (((0 : Nat) = (0 : Nat)) ∧
   ((Eq (α := List Value) (gC enA g.1) (gC enA g.1)) ∧
   ((Plain (gC enA g.1)) ∧
   ((bs g.2.1 = bs g.2.1) ∧
   ((bs g.2.2 = bs g.2.2) ∧
   (((0 : Nat) = (0 : Nat)) ∧
   ((List.length y.1 = List.length s.2.1) ∧
   (((↑(smZ y.1 (List.length y.1)) : Int) = (↑(smZ s.2.1 (List.length s.2.1)) : Int)) ∧
   ((y.3 = s.2.3) ∧
   ((Eq (α := List Value) (gC enF (y.1 ++ y.2)) (gC enF (s.2.1 ++ s.2.2))) ∧
   ((Plain (gC enF (y.1 ++ y.2))) ∧
   True))))))))))))))))) := by kernel_rfl
theorem F2_round (g : GT2) (k : Nat) (Inv : Nat → Prop) (m : Nat → Nat) : mev EtFd noM 60 7 (0 :: pF2) false (codeOf Try.prog 7 (0 :: pF2)) ⟨mkOv (slF2 g k), 171, []⟩ none ⟨mkR (rlF1 g.l g.f g.t), 4⟩ (roundK 1 4 171 Inv m (slF2 g) (fun _ => rlF1 g.l g.f g.t) (wsF2 g) k) =
  (br (decide ((↑k : Int) ≤ IntKind.wrap IntKind.i64 ((61 : Int) + Int.ofNat (List.length g.3.1))))
   ((((True ∧ (True ∧ True)) ∧ (((True ∧ (True ∧ (True ∧ True))) ∧ (Plain (gC enF (g.3.1 ++ g.3.2)) ∧ True)) ∧ ((Plain (gC enF (g.3.1 ++ g.3.2)) ∧ True) ∧ (IsTg (Row.mk (gC enF (g.3.1 ++ g.3.2)) false (Ob.cells true)) (List.length g.3.1) ∧ I64 (↑k : Int)))))) ∧
   ((((True ∧ ((True ∧ (True ∧ True)) ∧ True)) ∧ (((True ∧ (True ∧ (True ∧ True))) ∧ (Plain (gC enF (g.3.1 ++ g.3.2)) ∧ True)) ∧ ((Plain (gC enF (g.3.1 ++ g.3.2)) ∧ True) ∧ IsTg (Row.mk (gC enF (g.3.1 ++ g.3.2)) false (Ob.cells true)) (List.length g.3.1))))) ∧
   ((((True ∧ (True ∧ True)) ∧ (((True ∧ (True ∧ (True ∧ True))) ∧ (Plain (gC enF (g.3.1 ++ g.3.2)) ∧ True)) ∧ ((Plain (gC enF (g.3.1 ++ g.3.2)) ∧ True) ∧ (IsTg (Row.mk (gC enF (g.3.1 ++ g.3.2)) false (Ob.cells true)) (List.length g.3.1) ∧ I64 (fdI (Row.mk (gC enF (g.3.1 ++ g.3.2)) false (Ob.cells true)) (List.length g.3.1) (gfA (Row.mk (gC enF (g.3.1 ++ g.3.2)) false (Ob.cells true)) (List.length g.3.1) (↑k : Int)) (gfB (Row.mk (gC enF (g.3.1 ++ g.3.2)) false (Ob.cells true)) (List.length g.3.1) (↑k : Int)))))))) ∧
   (br (!gfK (Row.mk (gC enF (g.3.1 ++ g.3.2)) false (Ob.cells true)) (List.length g.3.1) (↑k : Int))
    False
    (br (!fdB (Row.mk (gC enF (g.3.1 ++ g.3.2)) false (Ob.cells true)) (List.length g.3.1) (gfA (Row.mk (gC enF (g.3.1 ++ g.3.2)) false (Ob.cells true)) (List.length g.3.1) (↑k : Int)) (gfB (Row.mk (gC enF (g.3.1 ++ g.3.2)) false (Ob.cells true)) (List.length g.3.1) (↑k : Int)))
     False
     (br (decide (fdI (Row.mk (gC enF (g.3.1 ++ g.3.2)) false (Ob.cells true)) (List.length g.3.1) (gfA (Row.mk (gC enF (g.3.1 ++ g.3.2)) false (Ob.cells true)) (List.length g.3.1) (↑k : Int)) (gfB (Row.mk (gC enF (g.3.1 ++ g.3.2)) false (Ob.cells true)) (List.length g.3.1) (↑k : Int)) > (↑k : Int)))
      False
      (br (decide (fdI (Row.mk (gC enF (g.3.1 ++ g.3.2)) false (Ob.cells true)) (List.length g.3.1) (gfA (Row.mk (gC enF (g.3.1 ++ g.3.2)) false (Ob.cells true)) (List.length g.3.1) (↑k : Int)) (gfB (Row.mk (gC enF (g.3.1 ++ g.3.2)) false (Ob.cells true)) (List.length g.3.1) (↑k : Int)) < (1 : Int)))
       False
       (br (!gfK (Row.mk (gC enF (g.3.1 ++ g.3.2)) false (Ob.cells true)) (List.length g.3.1) (fdI (Row.mk (gC enF (g.3.1 ++ g.3.2)) false (Ob.cells true)) (List.length g.3.1) (gfA (Row.mk (gC enF (g.3.1 ++ g.3.2)) false (Ob.cells true)) (List.length g.3.1) (↑k : Int)) (gfB (Row.mk (gC enF (g.3.1 ++ g.3.2)) false (Ob.cells true)) (List.length g.3.1) (↑k : Int))))
        False
        (br (!(gfA (Row.mk (gC enF (g.3.1 ++ g.3.2)) false (Ob.cells true)) (List.length g.3.1) (fdI (Row.mk (gC enF (g.3.1 ++ g.3.2)) false (Ob.cells true)) (List.length g.3.1) (gfA (Row.mk (gC enF (g.3.1 ++ g.3.2)) false (Ob.cells true)) (List.length g.3.1) (↑k : Int)) (gfB (Row.mk (gC enF (g.3.1 ++ g.3.2)) false (Ob.cells true)) (List.length g.3.1) (↑k : Int))) == gfA (Row.mk (gC enF (g.3.1 ++ g.3.2)) false (Ob.cells true)) (List.length g.3.1) (↑k : Int) && (gfB (Row.mk (gC enF (g.3.1 ++ g.3.2)) false (Ob.cells true)) (List.length g.3.1) (fdI (Row.mk (gC enF (g.3.1 ++ g.3.2)) false (Ob.cells true)) (List.length g.3.1) (gfA (Row.mk (gC enF (g.3.1 ++ g.3.2)) false (Ob.cells true)) (List.length g.3.1) (↑k : Int)) (gfB (Row.mk (gC enF (g.3.1 ++ g.3.2)) false (Ob.cells true)) (List.length g.3.1) (↑k : Int))) == gfB (Row.mk (gC enF (g.3.1 ++ g.3.2)) false (Ob.cells true)) (List.length g.3.1) (↑k : Int) && true)))
         False
         (∃ j : Nat, ((Inv j) ∧
         ((m j < m k) ∧
         (((0 : Nat) = (0 : Nat)) ∧
         ((List.length g.1 = List.length g.1) ∧
         (((0 : Nat) = (0 : Nat)) ∧
         (((0 : Nat) = (0 : Nat)) ∧
         (((↑j : Int) = IntKind.wrap IntKind.i64 ((↑k : Int) + (1 : Int))) ∧
         ((Eq (α := List Value) (gC enA g.1) (gC enA g.1)) ∧
         ((Plain (gC enA g.1)) ∧
         ((bs g.2.1 = bs g.2.1) ∧
         ((bs g.2.2 = bs g.2.2) ∧
         (((0 : Nat) = (0 : Nat)) ∧
         ((List.length g.3.1 = List.length g.3.1) ∧
         (((↑(smZ g.3.1 (List.length g.3.1)) : Int) = (↑(smZ g.3.1 (List.length g.3.1)) : Int)) ∧
         ((g.3.3 = g.3.3) ∧
         ((Eq (α := List Value) (gC enF (g.3.1 ++ g.3.2)) (gC enF (g.3.1 ++ g.3.2))) ∧
         ((Plain (gC enF (g.3.1 ++ g.3.2))) ∧
         True)))))))))))))))))))))))))))
   (∃ y : Unit, ((True) ∧
   (((0 : Nat) = (0 : Nat)) ∧
   ((List.length g.1 = List.length g.1) ∧
   (((0 : Nat) = (0 : Nat)) ∧
   (((0 : Nat) = (0 : Nat)) ∧
   ((Eq (α := List Value) (gC enA g.1) (gC enA g.1)) ∧
   ((Plain (gC enA g.1)) ∧
   ((bs g.2.1 = bs g.2.1) ∧
   ((bs g.2.2 = bs g.2.2) ∧
   (((0 : Nat) = (0 : Nat)) ∧
   ((List.length g.3.1 = List.length g.3.1) ∧
   (((↑(smZ g.3.1 (List.length g.3.1)) : Int) = (↑(smZ g.3.1 (List.length g.3.1)) : Int)) ∧
   ((g.3.3 = g.3.3) ∧
   ((Eq (α := List Value) (gC enF (g.3.1 ++ g.3.2)) (gC enF (g.3.1 ++ g.3.2))) ∧
   ((Plain (gC enF (g.3.1 ++ g.3.2))) ∧
   True))))))))))))))))) := by kernel_rfl
theorem Fd_vc (most : Int) (l : List Asx) (a b : List UInt8) : mcall EtFd mFd 60 7 [.int .i64 most, .slice (some ⟨0, 0, none⟩) l.length 4, .agg ⟨[.string (bs a), .string (bs b)]⟩] ⟨mkR (nums 0 [gRo enA l]), 1⟩ (retIs 1 (.bool true) [gRo enA l]) =
  ((((True ∧ (True ∧ (True ∧ True))) ∧ (True ∧ (True ∧ (I64 most ∧ ((-1000000000000 : Int) ≤ (0 : Int) ∧ ((5000 : Int) ≤ (1000000000000 : Int) ∧ (0 : Int) ≤ (5000 : Int)))))))) ∧
  (br (decide (inside most (0 : Int) (5000 : Int) < (0 : Int)))
   ((true = false) ∧
   ((Eq (α := List Value) (gC enA l) (gC enA l)) ∧
   ((Plain (gC enA l)) ∧
   True)))
   (br (decide (inside most (0 : Int) (5000 : Int) > (65536 : Int)))
    ((true = false) ∧
    ((Eq (α := List Value) (gC enA l) (gC enA l)) ∧
    ((Plain (gC enA l)) ∧
    True)))
    (∃ g : GT, (((∀ (a : Asx), a ∈ GT.l g → List.length (Fl.n (Asx.f a)) ≤ (1048576 : Nat) ∧ List.length (Fl.v (Asx.f a)) ≤ (1048576 : Nat)) ∧ (0 : Int) ≤ g.3 ∧ g.3 ≤ (65536 : Int)) ∧
    (((0 : Nat) = (0 : Nat)) ∧
    ((List.length g.1 = List.length l) ∧
    (((0 : Nat) = (0 : Nat)) ∧
    (((0 : Nat) = (0 : Nat)) ∧
    (((↑(0 : Nat) : Int) = (0 : Int)) ∧
    ((Eq (α := List Value) (gC enA g.1) (gC enA l)) ∧
    ((Plain (gC enA g.1)) ∧
    ((bs g.2.1 = bs a) ∧
    ((bs g.2.2 = bs b) ∧
    (((0 : Nat) = (0 : Nat)) ∧
    (((↑(smZ [] (0 : Nat)) : Int) = (0 : Int)) ∧
    ((g.3 = inside most (0 : Int) (5000 : Int)) ∧
    ((Eq (α := List Value) ([]) ([])) ∧
    (∀ (y : Tb), ((Ok y) →
    (∃ g2 : GT2, ((Ok (GT2.t g2)) ∧
    (((0 : Nat) = (0 : Nat)) ∧
    ((List.length g2.1 = List.length g.1) ∧
    (((0 : Nat) = (0 : Nat)) ∧
    (((0 : Nat) = (0 : Nat)) ∧
    (((1 : Int) = (1 : Int)) ∧
    ((Eq (α := List Value) (gC enA g2.1) (gC enA g.1)) ∧
    ((Plain (gC enA g2.1)) ∧
    ((bs g2.2.1 = bs g.2.1) ∧
    ((bs g2.2.2 = bs g.2.2) ∧
    (((0 : Nat) = (0 : Nat)) ∧
    ((List.length g2.3.1 = List.length y.1) ∧
    (((↑(smZ g2.3.1 (List.length g2.3.1)) : Int) = (↑(smZ y.1 (List.length y.1)) : Int)) ∧
    ((g2.3.3 = y.3) ∧
    ((Eq (α := List Value) (gC enF (g2.3.1 ++ g2.3.2)) (gC enF (y.1 ++ y.2))) ∧
    ((Plain (gC enF (g2.3.1 ++ g2.3.2))) ∧
    (∀ (y2 : Unit), ((True) →
    ((((True ∧ ((True ∧ (True ∧ True)) ∧ True)) ∧ (((True ∧ (True ∧ (True ∧ True))) ∧ (Plain (gC enF (g2.3.1 ++ g2.3.2)) ∧ True)) ∧ ((Plain (gC enF (g2.3.1 ++ g2.3.2)) ∧ True) ∧ IsTg (Row.mk (gC enF (g2.3.1 ++ g2.3.2)) false (Ob.cells true)) (List.length g2.3.1))))) ∧
    ((((True ∧ (True ∧ True)) ∧ (((True ∧ (True ∧ (True ∧ True))) ∧ (Plain (gC enF (g2.3.1 ++ g2.3.2)) ∧ True)) ∧ ((Plain (gC enF (g2.3.1 ++ g2.3.2)) ∧ True) ∧ (IsTg (Row.mk (gC enF (g2.3.1 ++ g2.3.2)) false (Ob.cells true)) (List.length g2.3.1) ∧ I64 (fdI (Row.mk (gC enF (g2.3.1 ++ g2.3.2)) false (Ob.cells true)) (List.length g2.3.1) (bs g2.2.1) (bs g2.2.2))))))) ∧
    ((((True ∧ (True ∧ True)) ∧ (((True ∧ (True ∧ (True ∧ True))) ∧ (Plain (gC enF (g2.3.1 ++ g2.3.2)) ∧ True)) ∧ ((Plain (gC enF (g2.3.1 ++ g2.3.2)) ∧ True) ∧ (IsTg (Row.mk (gC enF (g2.3.1 ++ g2.3.2)) false (Ob.cells true)) (List.length g2.3.1) ∧ I64 (IntKind.wrap IntKind.i64 ((62 : Int) + Int.ofNat (List.length g2.3.1)))))))) ∧
    (br (fdI (Row.mk (gC enF (g2.3.1 ++ g2.3.2)) false (Ob.cells true)) (List.length g2.3.1) (bs g2.2.1) (bs g2.2.2) == (0 : Int))
     (br (!gfK (Row.mk (gC enF (g2.3.1 ++ g2.3.2)) false (Ob.cells true)) (List.length g2.3.1) (fdI (Row.mk (gC enF (g2.3.1 ++ g2.3.2)) false (Ob.cells true)) (List.length g2.3.1) (bs g2.2.1) (bs g2.2.2)))
      (br (!fdB (Row.mk (gC enF (g2.3.1 ++ g2.3.2)) false (Ob.cells true)) (List.length g2.3.1) (bs g2.2.1) (bs g2.2.2))
       (br (!gfK (Row.mk (gC enF (g2.3.1 ++ g2.3.2)) false (Ob.cells true)) (List.length g2.3.1) (IntKind.wrap IntKind.i64 ((62 : Int) + Int.ofNat (List.length g2.3.1))))
        (((True ∧ (True ∧ (True ∧ True)))) ∧
        ((true = true) ∧
        ((Eq (α := List Value) (gC enA l) (gC enA g2.1)) ∧
        ((Plain (gC enA l)) ∧
        True))))
        ((true = false) ∧
        ((Eq (α := List Value) (gC enA l) (gC enA g2.1)) ∧
        ((Plain (gC enA l)) ∧
        True))))
       (br (gfK (Row.mk (gC enF (g2.3.1 ++ g2.3.2)) false (Ob.cells true)) (List.length g2.3.1) (fdI (Row.mk (gC enF (g2.3.1 ++ g2.3.2)) false (Ob.cells true)) (List.length g2.3.1) (bs g2.2.1) (bs g2.2.2)))
        (br (strEq (gfA (Row.mk (gC enF (g2.3.1 ++ g2.3.2)) false (Ob.cells true)) (List.length g2.3.1) (fdI (Row.mk (gC enF (g2.3.1 ++ g2.3.2)) false (Ob.cells true)) (List.length g2.3.1) (bs g2.2.1) (bs g2.2.2))) (bs g2.2.1))
         (br (fdB (Row.mk (gC enF (g2.3.1 ++ g2.3.2)) false (Ob.cells true)) (List.length g2.3.1) (bs g2.2.1) (bs g2.2.2) == (gfA (Row.mk (gC enF (g2.3.1 ++ g2.3.2)) false (Ob.cells true)) (List.length g2.3.1) (fdI (Row.mk (gC enF (g2.3.1 ++ g2.3.2)) false (Ob.cells true)) (List.length g2.3.1) (bs g2.2.1) (bs g2.2.2)) == bs g2.2.1 && (gfB (Row.mk (gC enF (g2.3.1 ++ g2.3.2)) false (Ob.cells true)) (List.length g2.3.1) (fdI (Row.mk (gC enF (g2.3.1 ++ g2.3.2)) false (Ob.cells true)) (List.length g2.3.1) (bs g2.2.1) (bs g2.2.2)) == bs g2.2.2 && true)))
          (br (!gfK (Row.mk (gC enF (g2.3.1 ++ g2.3.2)) false (Ob.cells true)) (List.length g2.3.1) (IntKind.wrap IntKind.i64 ((62 : Int) + Int.ofNat (List.length g2.3.1))))
           (((True ∧ (True ∧ (True ∧ True)))) ∧
           ((true = true) ∧
           ((Eq (α := List Value) (gC enA l) (gC enA g2.1)) ∧
           ((Plain (gC enA l)) ∧
           True))))
           ((true = false) ∧
           ((Eq (α := List Value) (gC enA l) (gC enA g2.1)) ∧
           ((Plain (gC enA l)) ∧
           True))))
          ((true = false) ∧
          ((Eq (α := List Value) (gC enA l) (gC enA g2.1)) ∧
          ((Plain (gC enA l)) ∧
          True))))
         ((true = false) ∧
         ((Eq (α := List Value) (gC enA l) (gC enA g2.1)) ∧
         ((Plain (gC enA l)) ∧
         True))))
        ((true = false) ∧
        ((Eq (α := List Value) (gC enA l) (gC enA g2.1)) ∧
        ((Plain (gC enA l)) ∧
        True)))))
      (br (gfK (Row.mk (gC enF (g2.3.1 ++ g2.3.2)) false (Ob.cells true)) (List.length g2.3.1) (fdI (Row.mk (gC enF (g2.3.1 ++ g2.3.2)) false (Ob.cells true)) (List.length g2.3.1) (bs g2.2.1) (bs g2.2.2)))
       (br (strEq (gfA (Row.mk (gC enF (g2.3.1 ++ g2.3.2)) false (Ob.cells true)) (List.length g2.3.1) (fdI (Row.mk (gC enF (g2.3.1 ++ g2.3.2)) false (Ob.cells true)) (List.length g2.3.1) (bs g2.2.1) (bs g2.2.2))) (bs g2.2.1))
        (br (fdB (Row.mk (gC enF (g2.3.1 ++ g2.3.2)) false (Ob.cells true)) (List.length g2.3.1) (bs g2.2.1) (bs g2.2.2) == (gfA (Row.mk (gC enF (g2.3.1 ++ g2.3.2)) false (Ob.cells true)) (List.length g2.3.1) (fdI (Row.mk (gC enF (g2.3.1 ++ g2.3.2)) false (Ob.cells true)) (List.length g2.3.1) (bs g2.2.1) (bs g2.2.2)) == bs g2.2.1 && (gfB (Row.mk (gC enF (g2.3.1 ++ g2.3.2)) false (Ob.cells true)) (List.length g2.3.1) (fdI (Row.mk (gC enF (g2.3.1 ++ g2.3.2)) false (Ob.cells true)) (List.length g2.3.1) (bs g2.2.1) (bs g2.2.2)) == bs g2.2.2 && true)))
         (br (!gfK (Row.mk (gC enF (g2.3.1 ++ g2.3.2)) false (Ob.cells true)) (List.length g2.3.1) (IntKind.wrap IntKind.i64 ((62 : Int) + Int.ofNat (List.length g2.3.1))))
          (((True ∧ (True ∧ (True ∧ True)))) ∧
          ((true = true) ∧
          ((Eq (α := List Value) (gC enA l) (gC enA g2.1)) ∧
          ((Plain (gC enA l)) ∧
          True))))
          ((true = false) ∧
          ((Eq (α := List Value) (gC enA l) (gC enA g2.1)) ∧
          ((Plain (gC enA l)) ∧
          True))))
         ((true = false) ∧
         ((Eq (α := List Value) (gC enA l) (gC enA g2.1)) ∧
         ((Plain (gC enA l)) ∧
         True))))
        ((true = false) ∧
        ((Eq (α := List Value) (gC enA l) (gC enA g2.1)) ∧
        ((Plain (gC enA l)) ∧
        True))))
       ((true = false) ∧
       ((Eq (α := List Value) (gC enA l) (gC enA g2.1)) ∧
       ((Plain (gC enA l)) ∧
       True)))))
     (br (gfK (Row.mk (gC enF (g2.3.1 ++ g2.3.2)) false (Ob.cells true)) (List.length g2.3.1) (fdI (Row.mk (gC enF (g2.3.1 ++ g2.3.2)) false (Ob.cells true)) (List.length g2.3.1) (bs g2.2.1) (bs g2.2.2)))
      (br (strEq (gfA (Row.mk (gC enF (g2.3.1 ++ g2.3.2)) false (Ob.cells true)) (List.length g2.3.1) (fdI (Row.mk (gC enF (g2.3.1 ++ g2.3.2)) false (Ob.cells true)) (List.length g2.3.1) (bs g2.2.1) (bs g2.2.2))) (bs g2.2.1))
       (br (fdB (Row.mk (gC enF (g2.3.1 ++ g2.3.2)) false (Ob.cells true)) (List.length g2.3.1) (bs g2.2.1) (bs g2.2.2) == (gfA (Row.mk (gC enF (g2.3.1 ++ g2.3.2)) false (Ob.cells true)) (List.length g2.3.1) (fdI (Row.mk (gC enF (g2.3.1 ++ g2.3.2)) false (Ob.cells true)) (List.length g2.3.1) (bs g2.2.1) (bs g2.2.2)) == bs g2.2.1 && (gfB (Row.mk (gC enF (g2.3.1 ++ g2.3.2)) false (Ob.cells true)) (List.length g2.3.1) (fdI (Row.mk (gC enF (g2.3.1 ++ g2.3.2)) false (Ob.cells true)) (List.length g2.3.1) (bs g2.2.1) (bs g2.2.2)) == bs g2.2.2 && true)))
        (br (!gfK (Row.mk (gC enF (g2.3.1 ++ g2.3.2)) false (Ob.cells true)) (List.length g2.3.1) (IntKind.wrap IntKind.i64 ((62 : Int) + Int.ofNat (List.length g2.3.1))))
         (((True ∧ (True ∧ (True ∧ True)))) ∧
         ((true = true) ∧
         ((Eq (α := List Value) (gC enA l) (gC enA g2.1)) ∧
         ((Plain (gC enA l)) ∧
         True))))
         ((true = false) ∧
         ((Eq (α := List Value) (gC enA l) (gC enA g2.1)) ∧
         ((Plain (gC enA l)) ∧
         True))))
        ((true = false) ∧
        ((Eq (α := List Value) (gC enA l) (gC enA g2.1)) ∧
        ((Plain (gC enA l)) ∧
        True))))
       ((true = false) ∧
       ((Eq (α := List Value) (gC enA l) (gC enA g2.1)) ∧
       ((Plain (gC enA l)) ∧
       True))))
      ((true = false) ∧
      ((Eq (α := List Value) (gC enA l) (gC enA g2.1)) ∧
      ((Plain (gC enA l)) ∧
      True))))))))))))))))))))))))))))))))))))))))))))))) := by kernel_rfl
theorem tFd_ok : ∀ x ∈ tFd, EntOk Try.prog x := all_cons eWiT_ok (all_cons eRunsT_ok (all_cons eAddT_ok (all_cons eGetT_ok (all_cons eFndT_ok (all_nil)))))
theorem getF_ok (l : List Fl) (i : Nat) (h1 : 1 ≤ i) (h2 : i ≤ 61 + l.length) : (getF l i).2 = true := by
  unfold getF
  split
  · show inR i = true
    exact decide_eq_true (by omega)
  · rw [if_pos (by omega)]
theorem getF_end (l : List Fl) (i : Int) (h : 61 + l.length < i) : (getF l i).2 = false := by
  unfold getF; rw [if_neg (by omega), if_neg (by omega)]
theorem getF_0 (l : List Fl) : getF l 0 = (⟨[], []⟩, false) := by
  unfold getF; rw [if_pos (by omega)]
  have e : inR 0 = false := decide_eq_false (by omega)
  have e1 : stA 0 = ⟨#[]⟩ := by unfold stA; rw [e]; rfl
  have e2 : stB 0 = ⟨#[]⟩ := by unfold stB; rw [e]; rfl
  rw [e, e1, e2]; rfl
theorem fl_eq {a b : Fl} (h1 : a.n = b.n) (h2 : a.v = b.v) : a = b := by cases a; cases b; simp_all
theorem fnd_spec (l : List Fl) (f : Fl) : ∀ (k i : Nat) (nm : Int), i + k = 62 + l.length → 1 ≤ i → (nm = 0 ∨ ∃ j : Nat, nm = j ∧ 1 ≤ j ∧ j ≤ 61 + l.length ∧ (getF l j).1.n = f.n) →
    ((fndN l f k i nm).2 = true ∧ ∃ j : Nat, (fndN l f k i nm).1 = j ∧ i ≤ j ∧ j ≤ 61 + l.length ∧ (getF l j).1 = f ∧ ∀ j' : Nat, i ≤ j' → j' < j → (getF l j').1 ≠ f) ∨
    ((fndN l f k i nm).2 = false ∧ (∀ j' : Nat, i ≤ j' → j' ≤ 61 + l.length → (getF l j').1 ≠ f) ∧ ((fndN l f k i nm).1 = 0 ∨ ∃ j : Nat, (fndN l f k i nm).1 = j ∧ 1 ≤ j ∧ j ≤ 61 + l.length ∧ (getF l j).1.n = f.n))
  | 0, i, nm, h1, h2, h3 => .inr ⟨rfl, fun j' q1 q2 => by omega, h3⟩
  | k + 1, i, nm, h1, h2, h3 => by
    rw [fndN]
    by_cases h : (getF l (i : Nat)).1.n = f.n ∧ (getF l (i : Nat)).1.v = f.v
    · rw [if_pos h]
      exact .inl ⟨rfl, i, rfl, Nat.le_refl _, by omega, fl_eq h.1 h.2, fun j' q1 q2 => by omega⟩
    · rw [if_neg h]
      have hne : (getF l (i : Nat)).1 ≠ f := fun e => h ⟨by rw [e], by rw [e]⟩
      have h3' : (if nm = 0 ∧ (getF l (i : Nat)).1.n = f.n then ((i : Nat) : Int) else nm) = 0 ∨ ∃ j : Nat, (if nm = 0 ∧ (getF l (i : Nat)).1.n = f.n then ((i : Nat) : Int) else nm) = j ∧ 1 ≤ j ∧ j ≤ 61 + l.length ∧ (getF l j).1.n = f.n := by
        split
        · rename_i q
          exact .inr ⟨i, rfl, h2, by omega, q.2⟩
        · exact h3
      rcases fnd_spec l f k (i + 1) _ (by omega) (by omega) h3' with ⟨r1, j, r2, r3, r4, r5, r6⟩ | ⟨r1, r2, r3⟩
      · refine .inl ⟨r1, j, r2, by omega, r4, r5, fun j' q1 q2 => ?_⟩
        rcases Nat.eq_or_lt_of_le q1 with e | q
        · rw [← e]; exact hne
        · exact r6 j' q q2
      · refine .inr ⟨r1, fun j' q1 q2 => ?_, r3⟩
        rcases Nat.eq_or_lt_of_le q1 with e | q
        · rw [← e]; exact hne
        · exact r2 j' q q2
theorem F1_piece : PieceOk EtFd 1 (7, pF1, specF1) := by
  refine piece_loop mixed (calls_envT tFd_ok) (lok_envT _ _) lm_none (n := 60) (by kernel_rfl) (fun g : GT => ((0, ⟨[], [], g.m⟩) : Nat × Tb)) (fun g s => s.1 ≤ g.l.length ∧ Ok s.2) (fun g s => g.l.length - s.1) (sl := slF1) (rl := fun g s => rlF1 g.l g.f s.2) (fun g hg => ⟨Nat.zero_le _, ⟨hg.2.1, hg.2.1, hg.2.2⟩⟩) (fun g s hg hi => ?_)
  obtain ⟨h1, h2⟩ := hi
  obtain ⟨hg, _⟩ := hg
  refine (F1_round g s _ _).mpr ?_
  obtain ⟨i, tl, tj, tm⟩ := s
  have one : ∀ l : List Fl, smN (l.take l.length) = smN l := fun l => by rw [List.take_length]
  have aN : ∀ l j m a b, adN ⟨gC enF (l ++ j), false, .cells true⟩ l.length m (bs a) (bs b) = (addT ⟨l, j, m⟩ ⟨a, b⟩).l.length := fun l j m a b => (ad_mk l j m a b).1
  have aS : ∀ l j m a b, adS ⟨gC enF (l ++ j), false, .cells true⟩ l.length m (bs a) (bs b) = (smN (addT ⟨l, j, m⟩ ⟨a, b⟩).l : Nat) := fun l j m a b => (ad_mk l j m a b).2.1
  have aC : ∀ l j m a b, adC ⟨gC enF (l ++ j), false, .cells true⟩ l.length m (bs a) (bs b) = gC enF ((addT ⟨l, j, m⟩ ⟨a, b⟩).l ++ (addT ⟨l, j, m⟩ ⟨a, b⟩).j) := fun l j m a b => (ad_mk l j m a b).2.2
  simp only at h1 h2
  simp only [ofNat_eq, toNat_cast, Nat.zero_add, Nat.add_zero, Nat.mul_one, List.drop_zero, bCells_len, bCells_drop, bCells_take, bCells_app, bCells_one, bCells_plain, List.length_replicate, List.length_append, List.length_take, List.length_drop, List.take_length, and_true, true_and, and_self, decide_true, List.length_nil, List.length_cons, Nat.sub_zero, dB_mk, dB_ro, List.take_zero, z_smZ, one, asPl, fPl]
  refine br_if (fun h => br_if (fun h60 => br_dec (by omega) ?_) (fun h60 => ?_)) (fun h => ?_)
  · have hi : i < g.l.length := by omega
    obtain ⟨c0, c1, c2, c3, d0, d1, d2, d3⟩ := asGet g.l i hi
    have e2 : (bs g.l[i].f.n).data.toList.length = g.l[i].f.n.length := bs_len _
    have e3 : (bs g.l[i].f.v).data.toList.length = g.l[i].f.v.length := bs_len _
    simp only [c0, c1, c2, c3, d0, d1, d2, d3, e2, e3, aN, aS, aC, true_and, fPl]
    have w1 : IntKind.i64.wrap ((i : Int) + 1) = ((i + 1 : Nat) : Int) := by rw [wr64_id (by unfold I64; omega)]; omega
    have ib := isTb_mk ⟨tl, tj, tm⟩ h2
    simp only at ib
    obtain ⟨l1, l2⟩ := hg _ (List.getElem_mem hi)
    have wl : IntKind.i64.wrap ((g.l[i].f.n.length : Int) + (g.l[i].f.v.length : Int)) = (g.l[i].f.n.length : Int) + (g.l[i].f.v.length : Int) := wr64_id (by unfold I64; omega)
    have hO := ok_ad ⟨tl, tj, tm⟩ ⟨g.l[i].f.n, g.l[i].f.v⟩ h2
    have hA : (addT ⟨tl, tj, tm⟩ ⟨g.l[i].f.n, g.l[i].f.v⟩).most = tm := addT_m _ _
    have hf : fbZ (bs g.l[i].f.n) (bs g.l[i].f.v) ≤ 100000000 ∨ 1000 < (g.l[i].f.n.length : Int) + (g.l[i].f.v.length : Int) := by
      rw [z_fbZ]; unfold fbN; rw [L_bs, L_bs]; simp only; omega
    generalize addT ⟨tl, tj, tm⟩ ⟨g.l[i].f.n, g.l[i].f.v⟩ = u at hO hA ⊢
    obtain ⟨q0, q1, q2⟩ := h2
    simp only at q0 q1 q2
    rw [wl]
    refine br_dec (by omega) (br_if (fun hb => br_dec (by omega) ⟨⟨ib, by omega, q1, by omega⟩, (i + 1, u), ⟨by simp only; omega, hO⟩, by simp only; omega, w1.symm, rfl, rfl, hA, rfl⟩) (fun hb => ?_))
    exact ⟨(i + 1, ⟨tl, tj, tm⟩), ⟨by simp only; omega, ⟨q0, q1, q2⟩⟩, by simp only; omega, w1.symm, rfl, rfl, rfl, rfl⟩
  · exact ⟨⟨tl, tj, tm⟩, h2, rfl, rfl, rfl, rfl⟩
  · exact ⟨⟨tl, tj, tm⟩, h2, rfl, rfl, rfl, rfl⟩
theorem F2_piece : PieceOk EtFd 1 (7, pF2, specF2) := by
  refine piece_loop mixed (calls_envT tFd_ok) (lok_envT _ _) lm_none (n := 60) (by kernel_rfl) (fun _ : GT2 => 1) (fun g k => 1 ≤ k ∧ k ≤ 62 + g.t.l.length) (fun g k => 62 + g.t.l.length - k) (sl := slF2) (rl := fun g _ => rlF1 g.l g.f g.t) (fun g hg => ⟨Nat.le_refl _, by omega⟩) (fun g k hg hi => ?_)
  refine (F2_round g k _ _).mpr ?_
  obtain ⟨al, f, ⟨tl, tj, tm⟩⟩ := g
  simp only at hi hg
  obtain ⟨g1, g2, g3⟩ := hg
  simp only at g1 g2 g3
  have hl := ok_len tl
  obtain ⟨e1, e2, e3⟩ := gf_mk tl tj false (.cells true) (k : Int)
  have w1 : IntKind.i64.wrap (61 + (tl.length : Int)) = 61 + (tl.length : Int) := wr64_id (by unfold I64; omega)
  have w2 : IntKind.i64.wrap ((k : Int) + 1) = ((k + 1 : Nat) : Int) := by rw [wr64_id (by unfold I64; omega)]; omega
  have dI : ∀ x y : List UInt8, fdI ⟨gC enF (tl ++ tj), false, .cells true⟩ tl.length (bs x) (bs y) = (fndF tl ⟨x, y⟩).1 := fun x y => (fd_mk _ _ _ _ _ _).1
  have dB : ∀ x y : List UInt8, fdB ⟨gC enF (tl ++ tj), false, .cells true⟩ tl.length (bs x) (bs y) = (fndF tl ⟨x, y⟩).2 := fun x y => (fd_mk _ _ _ _ _ _).2
  simp only [ofNat_eq, toNat_cast, Nat.zero_add, Nat.add_zero, Nat.mul_one, List.drop_zero, bCells_len, bCells_drop, bCells_take, bCells_app, bCells_one, bCells_plain, List.length_replicate, List.length_append, List.length_take, List.length_drop, List.take_length, and_true, true_and, and_self, decide_true, List.length_nil, List.length_cons, Nat.sub_zero, dB_mk, dB_ro, List.take_zero, z_smZ, asPl, fPl, e1, e2, e3, w1, w2, dI, dB]
  refine br_if (fun h => ?_) (fun h => ⟨(), trivial⟩)
  have it := isTg_mk tl tj (by omega)
  have ok := getF_ok tl k hi.1 (by omega)
  have eta : (⟨(getF tl (k : Int)).1.n, (getF tl (k : Int)).1.v⟩ : Fl) = (getF tl (k : Int)).1 := rfl
  rw [eta, ok]
  rcases fnd_spec tl (getF tl (k : Int)).1 (61 + tl.length) 1 0 (by omega) (by omega) (.inl rfl) with ⟨r1, q, r2, r3, r4, r5, r6⟩ | ⟨r1, r2, r3⟩
  · have hq : q ≤ k := by
      rcases Nat.lt_or_ge k q with h' | h'
      · exact absurd rfl (r6 k hi.1 h')
      · exact h'
    have r1 : (fndF tl (getF tl (k : Int)).1).2 = true := r1
    have r2 : (fndF tl (getF tl (k : Int)).1).1 = q := r2
    obtain ⟨f1, f2, f3⟩ := gf_mk tl tj false (.cells true) (q : Int)
    rw [r1, r2, f1, f2, f3, r5, getF_ok tl q r3 r4, bq_bs, bq_bs]
    exact ⟨⟨it, by unfold I64; omega⟩, it, ⟨it, by unfold I64; omega⟩, br_nb rfl (br_nb rfl (br_nd (by omega) (br_nd (by omega) (br_nb rfl (br_nb (by simp) ⟨k + 1, ⟨by omega, by omega⟩, by omega, rfl⟩)))))⟩
  · exact absurd rfl (r2 k hi.1 (by omega))
theorem Fd_law (most : Int) (l : List Asx) (a b : ByteArray) (hm : I64 most) (hl : l.length ≤ 1048576) (h : ∀ a ∈ l, (I64 a.k ∧ I64 a.n) ∧ a.f.n.length ≤ 1048576 ∧ a.f.v.length ≤ 1048576) (_ : a.size ≤ 1048576) (_ : b.size ≤ 1048576) : Con Try.prog 7 [.int .i64 most, .slice (some ⟨0, 0, none⟩) l.length 4, .agg ⟨[.string a, .string b]⟩] [gRo enA l] (.bool true) [gRo enA l] := by
  obtain ⟨a, rfl⟩ : ∃ l, a = bs l := ⟨L a, rfl⟩
  obtain ⟨b, rfl⟩ : ∃ l, b = bs l := ⟨L b, rfl⟩
  refine con_vc (E := EtFd) mixed (calls_envT tFd_ok) (lok_envT _ _) (M := mFd) (lm_two F1_piece F2_piece) (Fd_vc most l a b) ?_
  obtain ⟨i1, i2⟩ := inside_in most 0 5000 (by omega)
  simp only [ofNat_eq, toNat_cast, Nat.zero_add, Nat.add_zero, Nat.mul_one, List.drop_zero, bCells_len, bCells_drop, bCells_take, bCells_app, bCells_one, bCells_plain, List.length_replicate, List.length_append, List.length_take, List.length_drop, List.take_length, and_true, true_and, and_self, decide_true, List.length_nil, List.length_cons, Nat.sub_zero, dB_mk, dB_ro, List.take_zero, z_smZ, asPl, fPl]
  refine ⟨⟨hm, by omega, by omega, by omega⟩, br_nd (by omega) (br_nd (by omega) ⟨⟨l, ⟨a, b⟩, inside most 0 5000⟩, ⟨fun a ha => (h a ha).2, i1, by simp only; omega⟩, rfl, rfl, rfl, rfl, rfl, rfl, rfl, fun y hy => ⟨⟨l, ⟨a, b⟩, y⟩, hy, rfl, rfl, rfl, rfl, rfl, rfl, rfl, rfl, fun _ _ => ?_⟩⟩)⟩
  obtain ⟨tl, tj, tm⟩ := y
  obtain ⟨g1, g2, g3⟩ := hy
  simp only at g1 g2 g3
  have hl' := ok_len tl
  have dI : ∀ x y : List UInt8, fdI ⟨gC enF (tl ++ tj), false, .cells true⟩ tl.length (bs x) (bs y) = (fndF tl ⟨x, y⟩).1 := fun x y => (fd_mk _ _ _ _ _ _).1
  have dB : ∀ x y : List UInt8, fdB ⟨gC enF (tl ++ tj), false, .cells true⟩ tl.length (bs x) (bs y) = (fndF tl ⟨x, y⟩).2 := fun x y => (fd_mk _ _ _ _ _ _).2
  have gA : ∀ i, gfA ⟨gC enF (tl ++ tj), false, .cells true⟩ tl.length i = bs (getF tl i).1.n := fun i => (gf_mk _ _ _ _ _).1
  have gB : ∀ i, gfB ⟨gC enF (tl ++ tj), false, .cells true⟩ tl.length i = bs (getF tl i).1.v := fun i => (gf_mk _ _ _ _ _).2.1
  have gK : ∀ i, gfK ⟨gC enF (tl ++ tj), false, .cells true⟩ tl.length i = (getF tl i).2 := fun i => (gf_mk _ _ _ _ _).2.2
  have it := isTg_mk tl tj (by omega)
  have w62 : IntKind.i64.wrap (62 + (tl.length : Int)) = 62 + (tl.length : Int) := wr64_id (by unfold I64; omega)
  have ge := getF_end tl (62 + (tl.length : Int)) (by omega)
  simp only [dI, dB, gA, gB, gK, w62, strEq_bs, bq_bs, ge]
  have hI : I64 (62 + (tl.length : Int)) := by unfold I64; omega
  rcases fnd_spec tl ⟨a, b⟩ (61 + tl.length) 1 0 (by omega) (by omega) (.inl rfl) with ⟨r1, q, r2, r3, r4, r5, r6⟩ | ⟨r1, r2, r3⟩
  · have r1 : (fndF tl ⟨a, b⟩).2 = true := r1
    have r2 : (fndF tl ⟨a, b⟩).1 = q := r2
    have q0 : ((q : Int) == 0) = false := by simp; omega
    simp only [r1, r2, r5, getF_ok tl q r3 r4, q0]
    exact ⟨it, ⟨it, by unfold I64; omega⟩, ⟨it, hI⟩, by simp [br]⟩
  · have r1 : (fndF tl ⟨a, b⟩).2 = false := r1
    rcases r3 with r3 | ⟨q, r3, q1, q2, q3⟩
    · have r3 : (fndF tl ⟨a, b⟩).1 = 0 := r3
      simp only [r1, r3, getF_0]
      exact ⟨it, ⟨it, by unfold I64; omega⟩, ⟨it, hI⟩, by simp [br]⟩
    · have r3 : (fndF tl ⟨a, b⟩).1 = q := r3
      have q0 : ((q : Int) == 0) = false := by simp; omega
      have nv : (getF tl (q : Int)).1.v ≠ b := fun e => r2 q q1 q2 (fl_eq q3 e)
      simp only [r1, r3, getF_ok tl q q1 q2, q0]
      have q3 : (getF tl (q : Int)).1.n = a := q3
      exact ⟨it, ⟨it, by unfold I64; omega⟩, ⟨it, hI⟩, by simp [br, q3, nv]⟩
end Go.Proofs.Ytpfigiokmcojeaa.tb
