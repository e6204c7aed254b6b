/- The law: a table's size is never above the most, and is what its fields have; the newest ones are there. -/
import Derived.Test.YtpfigiokmcojeaaSz9
import Derived.Test.YtpfigiokmcojeaaRows
import Derived.Test.YtpfigiokmcojeaaLlawTt
set_option linter.unusedSimpArgs false
set_option linter.unusedVariables false
namespace Go.Proofs.Ytpfigiokmcojeaa.tb
open Go Go.Ev Go.Sy Go.RowKit Go.Proofs.Ytpfigiokmcojeaa.gl Go.Proofs.Ytpfigiokmcojeaa.tk
def pB1 : List Nat := [0, 1, 0, 1, 1, 1, 1]
def pB2 : List Nat := [0, 1, 0, 1, 1, 1, 1, 0, 0, 1, 0, 0, 1, 0, 1, 1, 1, 1]
structure SB where
  i : Nat
  t : Tb
  ad : List Fl
structure GB where
  l : List Asx
  s : SB
  a : Asx
structure GB0 where
  l : List Asx
  m : Int
noncomputable def slB1 (l : List Asx) (s : SB) : List (Nat × Value) := [(1, .slice (some ⟨0, 0, none⟩) l.length 4), (5, .pointer (some ⟨1, 0, none⟩)), (7, .slice (some ⟨3, 0, none⟩) s.ad.length 2), (8, .int .i64 (s.i : Nat))]
noncomputable def rlB1 (l : List Asx) (s : SB) : List (Nat × Row) := [(0, gRo enA l), (1, ⟨[.slice (some ⟨2, 0, none⟩) s.t.l.length 2, .int .i64 (smZ s.t.l s.t.l.length : Nat), .int .i64 s.t.most], false, .cells false⟩), (2, gOwn enF (s.t.l ++ s.t.j)), (3, gOwn enF s.ad)]
noncomputable def wsB1 (l : List Asx) : List (Gate Unit) := [⟨.exit 0, fun _ => True, fun _ => [(1, .slice (some ⟨0, 0, none⟩) l.length 4)], fun _ => [(0, gRo enA l)], 4⟩]
noncomputable def specB1 : Sy.Spec := specOf 1 4 148 (fun g : GB0 => (∀ a ∈ g.l, a.f.n.length ≤ 1048576 ∧ a.f.v.length ≤ 1048576) ∧ 0 ≤ g.m ∧ g.m ≤ 65536) (fun g => slB1 g.l ⟨0, ⟨[], [], g.m⟩, []⟩) (fun g => rlB1 g.l ⟨0, ⟨[], [], g.m⟩, []⟩) (fun g => wsB1 g.l)
noncomputable def slB2 (g : GB) (k : Nat) : List (Nat × Value) := slB1 g.l g.s ++ [(9, .pointer (some ⟨4, 0, none⟩)), (10, .int .i64 (smZ g.s.t.l k : Nat)), (11, .int .i64 (k : Nat))]
noncomputable def rlB2 (g : GB) : List (Nat × Row) := rlB1 g.l g.s ++ [(4, ⟨[.int .i64 g.a.k, .int .i64 g.a.n, .string (bs g.a.f.n), .string (bs g.a.f.v)], false, .cells false⟩)]
noncomputable def wsB2 (g : GB) : List (Gate Unit) := [⟨.exit 2, fun _ => True, fun _ => slB1 g.l g.s ++ [(9, .pointer (some ⟨4, 0, none⟩)), (10, .int .i64 (smZ g.s.t.l g.s.t.l.length : Nat))], fun _ => rlB2 g, 5⟩]
noncomputable def specB2 : Sy.Spec := specOf 1 5 148 (fun g : GB => Ok g.s.t ∧ g.s.t.l.length ≤ g.s.ad.length ∧ g.s.ad.length ≤ 60) (fun g => slB2 g 0) (fun g => rlB2 g) wsB2
noncomputable def mB1 := mOf [(5, pB1, specB1)]
noncomputable def mB2 := mOf [(5, pB2, specB2)]
theorem B2_round (g : GB) (k : Nat) (Inv : Nat → Prop) (m : Nat → Nat) : mev EtTw noM 60 5 (0 :: pB2) false (codeOf Try.prog 5 (0 :: pB2)) ⟨mkOv (slB2 g k), 148, []⟩ none ⟨mkR (rlB2 g), 5⟩ (roundK 1 5 148 Inv m (slB2 g) (fun _ => rlB2 g) (wsB2 g) k) =
  (br (decide ((↑k : Int) < Int.ofNat (List.length g.2.2.1)))
   ((((True ∧ (True ∧ True)) ∧ (((True ∧ (True ∧ (True ∧ True))) ∧ (Plain (gC enF (g.2.2.1 ++ g.2.2.2)) ∧ True)) ∧ ((Plain (gC enF (g.2.2.1 ++ g.2.2.2)) ∧ True) ∧ (IsTg (Row.mk (gC enF (g.2.2.1 ++ g.2.2.2)) false (Ob.cells true)) (List.length g.2.2.1) ∧ I64 (IntKind.wrap IntKind.i64 ((62 : Int) + (↑k : Int)))))))) ∧
   (br (!gfK (Row.mk (gC enF (g.2.2.1 ++ g.2.2.2)) false (Ob.cells true)) (List.length g.2.2.1) (IntKind.wrap IntKind.i64 ((62 : Int) + (↑k : Int))))
    False
    (br (decide ((↑k : Int) > (0 : Int)))
     (br (decide ((↑k : Int) ≥ Int.ofNat (List.length g.2.3)))
      False
      (∃ j : Nat, ((Inv j) ∧
      ((m j < m k) ∧
      (((0 : Nat) = (0 : Nat)) ∧
      ((List.length g.1 = List.length g.1) ∧
      (((0 : Nat) = (0 : Nat)) ∧
      (((0 : Nat) = (0 : Nat)) ∧
      ((List.length g.2.3 = List.length g.2.3) ∧
      (((↑g.2.1 : Int) = (↑g.2.1 : Int)) ∧
      (((0 : Nat) = (0 : Nat)) ∧
      (((↑(smZ g.2.2.1 j) : Int) = IntKind.wrap IntKind.i64 (IntKind.wrap IntKind.i64 (IntKind.wrap IntKind.i64 ((↑(smZ g.2.2.1 k) : Int) + Int.ofNat (List.length (Array.toList (ByteArray.data (gfA (Row.mk (gC enF (g.2.2.1 ++ g.2.2.2)) false (Ob.cells true)) (List.length g.2.2.1) (IntKind.wrap IntKind.i64 ((62 : Int) + (↑k : Int)))))))) + Int.ofNat (List.length (Array.toList (ByteArray.data (gfB (Row.mk (gC enF (g.2.2.1 ++ g.2.2.2)) false (Ob.cells true)) (List.length g.2.2.1) (IntKind.wrap IntKind.i64 ((62 : Int) + (↑k : Int)))))))) + (32 : Int))) ∧
      (((↑j : Int) = IntKind.wrap IntKind.i64 ((↑k : Int) + (1 : Int))) ∧
      ((Eq (α := List Value) (gC enA g.1) (gC enA g.1)) ∧
      ((Plain (gC enA g.1)) ∧
      (((0 : Nat) = (0 : Nat)) ∧
      ((List.length g.2.2.1 = List.length g.2.2.1) ∧
      (((↑(smZ g.2.2.1 (List.length g.2.2.1)) : Int) = (↑(smZ g.2.2.1 (List.length g.2.2.1)) : Int)) ∧
      ((g.2.2.3 = g.2.2.3) ∧
      ((Eq (α := List Value) (gC enF (g.2.2.1 ++ g.2.2.2)) (gC enF (g.2.2.1 ++ g.2.2.2))) ∧
      ((Plain (gC enF (g.2.2.1 ++ g.2.2.2))) ∧
      ((Eq (α := List Value) (gC enF g.2.3) (gC enF g.2.3)) ∧
      ((Plain (gC enF g.2.3)) ∧
      ((g.3.1 = g.3.1) ∧
      ((g.3.2 = g.3.2) ∧
      ((bs g.3.3.1 = bs g.3.3.1) ∧
      ((bs g.3.3.2 = bs g.3.3.2) ∧
      True)))))))))))))))))))))))))))
     (∃ j : Nat, ((Inv j) ∧
     ((m j < m k) ∧
     (((0 : Nat) = (0 : Nat)) ∧
     ((List.length g.1 = List.length g.1) ∧
     (((0 : Nat) = (0 : Nat)) ∧
     (((0 : Nat) = (0 : Nat)) ∧
     ((List.length g.2.3 = List.length g.2.3) ∧
     (((↑g.2.1 : Int) = (↑g.2.1 : Int)) ∧
     (((0 : Nat) = (0 : Nat)) ∧
     (((↑(smZ g.2.2.1 j) : Int) = IntKind.wrap IntKind.i64 (IntKind.wrap IntKind.i64 (IntKind.wrap IntKind.i64 ((↑(smZ g.2.2.1 k) : Int) + Int.ofNat (List.length (Array.toList (ByteArray.data (gfA (Row.mk (gC enF (g.2.2.1 ++ g.2.2.2)) false (Ob.cells true)) (List.length g.2.2.1) (IntKind.wrap IntKind.i64 ((62 : Int) + (↑k : Int)))))))) + Int.ofNat (List.length (Array.toList (ByteArray.data (gfB (Row.mk (gC enF (g.2.2.1 ++ g.2.2.2)) false (Ob.cells true)) (List.length g.2.2.1) (IntKind.wrap IntKind.i64 ((62 : Int) + (↑k : Int)))))))) + (32 : Int))) ∧
     (((↑j : Int) = IntKind.wrap IntKind.i64 ((↑k : Int) + (1 : Int))) ∧
     ((Eq (α := List Value) (gC enA g.1) (gC enA g.1)) ∧
     ((Plain (gC enA g.1)) ∧
     (((0 : Nat) = (0 : Nat)) ∧
     ((List.length g.2.2.1 = List.length g.2.2.1) ∧
     (((↑(smZ g.2.2.1 (List.length g.2.2.1)) : Int) = (↑(smZ g.2.2.1 (List.length g.2.2.1)) : Int)) ∧
     ((g.2.2.3 = g.2.2.3) ∧
     ((Eq (α := List Value) (gC enF (g.2.2.1 ++ g.2.2.2)) (gC enF (g.2.2.1 ++ g.2.2.2))) ∧
     ((Plain (gC enF (g.2.2.1 ++ g.2.2.2))) ∧
     ((Eq (α := List Value) (gC enF g.2.3) (gC enF g.2.3)) ∧
     ((Plain (gC enF g.2.3)) ∧
     ((g.3.1 = g.3.1) ∧
     ((g.3.2 = g.3.2) ∧
     ((bs g.3.3.1 = bs g.3.3.1) ∧
     ((bs g.3.3.2 = bs g.3.3.2) ∧
     True)))))))))))))))))))))))))))))
   (∃ y : Unit, ((True) ∧
   (((0 : Nat) = (0 : Nat)) ∧
   ((List.length g.1 = List.length g.1) ∧
   (((0 : Nat) = (0 : Nat)) ∧
   (((0 : Nat) = (0 : Nat)) ∧
   ((List.length g.2.3 = List.length g.2.3) ∧
   (((↑g.2.1 : Int) = (↑g.2.1 : Int)) ∧
   (((0 : Nat) = (0 : Nat)) ∧
   (((↑(smZ g.2.2.1 (List.length g.2.2.1)) : Int) = (↑(smZ g.2.2.1 k) : Int)) ∧
   ((Eq (α := List Value) (gC enA g.1) (gC enA g.1)) ∧
   ((Plain (gC enA g.1)) ∧
   (((0 : Nat) = (0 : Nat)) ∧
   ((List.length g.2.2.1 = List.length g.2.2.1) ∧
   (((↑(smZ g.2.2.1 (List.length g.2.2.1)) : Int) = (↑(smZ g.2.2.1 (List.length g.2.2.1)) : Int)) ∧
   ((g.2.2.3 = g.2.2.3) ∧
   ((Eq (α := List Value) (gC enF (g.2.2.1 ++ g.2.2.2)) (gC enF (g.2.2.1 ++ g.2.2.2))) ∧
   ((Plain (gC enF (g.2.2.1 ++ g.2.2.2))) ∧
   ((Eq (α := List Value) (gC enF g.2.3) (gC enF g.2.3)) ∧
   ((Plain (gC enF g.2.3)) ∧
   ((g.3.1 = g.3.1) ∧
   ((g.3.2 = g.3.2) ∧
   ((bs g.3.3.1 = bs g.3.3.1) ∧
   ((bs g.3.3.2 = bs g.3.3.2) ∧
   True))))))))))))))))))))))))) := by kernel_rfl
theorem B1_round (l : List Asx) (s : SB) (Inv : SB → Prop) (m : SB → Nat) : mev EtTw mB2 60 5 (0 :: pB1) false (codeOf Try.prog 5 (0 :: pB1)) ⟨mkOv (slB1 l s), 148, []⟩ none ⟨mkR (rlB1 l s), 4⟩ (roundK 1 4 148 Inv m (slB1 l) (rlB1 l) (wsB1 l) s) =
  (br (decide ((↑s.1 : Int) < Int.ofNat (List.length l)))
   (br (decide ((↑s.1 : Int) < (60 : Int)))
    (br (decide ((0 : Int) ≤ (↑s.1 : Int) ∧ (↑s.1 : Int) < (↑(List.length l) : Int)))
     ((Eq (α := Option Value) ((gC enA l)[(0 : Nat) + Int.toNat (↑s.1 : Int) * (4 : Nat)]?) (some (Value.int IntKind.i64 (cellI (gC enA l) ((0 : Nat) + Int.toNat (↑s.1 : Int) * (4 : Nat)))))) ∧
     ((Eq (α := Option Value) ((gC enA l)[(0 : Nat) + Int.toNat (↑s.1 : Int) * (4 : Nat) + (1 : Nat)]?) (some (Value.int IntKind.i64 (cellI (gC enA l) ((0 : Nat) + Int.toNat (↑s.1 : Int) * (4 : Nat) + (1 : Nat)))))) ∧
     ((Eq (α := Option Value) ((gC enA l)[(0 : Nat) + Int.toNat (↑s.1 : Int) * (4 : Nat) + (1 : Nat) + (1 : Nat)]?) (some (Value.string (cellS (gC enA l) ((0 : Nat) + Int.toNat (↑s.1 : Int) * (4 : Nat) + (1 : Nat) + (1 : Nat)))))) ∧
     ((Eq (α := Option Value) ((gC enA l)[(0 : Nat) + Int.toNat (↑s.1 : Int) * (4 : Nat) + (1 : Nat) + (1 : Nat) + (1 : Nat)]?) (some (Value.string (cellS (gC enA l) ((0 : Nat) + Int.toNat (↑s.1 : Int) * (4 : Nat) + (1 : Nat) + (1 : Nat) + (1 : Nat)))))) ∧
     (br (decide (IntKind.wrap IntKind.i64 (Int.ofNat (List.length (Array.toList (ByteArray.data (cellS (gC enA l) ((0 : Nat) + Int.toNat (↑s.1 : Int) * (4 : Nat) + (1 : Nat) + (1 : Nat)))))) + Int.ofNat (List.length (Array.toList (ByteArray.data (cellS (gC enA l) ((0 : Nat) + Int.toNat (↑s.1 : Int) * (4 : Nat) + (1 : Nat) + (1 : Nat) + (1 : Nat))))))) > (1000 : Int)))
      (∃ j : SB, ((Inv j) ∧
      ((m j < m s) ∧
      (((0 : Nat) = (0 : Nat)) ∧
      ((List.length l = List.length l) ∧
      (((0 : Nat) = (0 : Nat)) ∧
      (((0 : Nat) = (0 : Nat)) ∧
      ((List.length j.3 = List.length s.3) ∧
      (((↑j.1 : Int) = IntKind.wrap IntKind.i64 ((↑s.1 : Int) + (1 : Int))) ∧
      ((Eq (α := List Value) (gC enA l) (gC enA l)) ∧
      ((Plain (gC enA l)) ∧
      (((0 : Nat) = (0 : Nat)) ∧
      ((List.length j.2.1 = List.length s.2.1) ∧
      (((↑(smZ j.2.1 (List.length j.2.1)) : Int) = (↑(smZ s.2.1 (List.length s.2.1)) : Int)) ∧
      ((j.2.3 = s.2.3) ∧
      ((Eq (α := List Value) (gC enF (j.2.1 ++ j.2.2)) (gC enF (s.2.1 ++ s.2.2))) ∧
      ((Plain (gC enF (j.2.1 ++ j.2.2))) ∧
      ((Eq (α := List Value) (gC enF j.3) (gC enF s.3)) ∧
      ((Plain (gC enF j.3)) ∧
      True)))))))))))))))))))
      (br (cellI (gC enA l) ((0 : Nat) + Int.toNat (↑s.1 : Int) * (4 : Nat)) == (2 : Int))
       ((((True ∧ (True ∧ True)) ∧ (((True ∧ (True ∧ (True ∧ True))) ∧ (Plain (gC enF (s.2.1 ++ s.2.2)) ∧ True)) ∧ ((Plain (rsC (Row.mk (gC enF (s.2.1 ++ s.2.2)) false (Ob.cells true)) (List.length s.2.1) s.2.3 (cellI (gC enA l) ((0 : Nat) + Int.toNat (↑s.1 : Int) * (4 : Nat) + (1 : Nat)))) ∧ True) ∧ IsTb (Row.mk (gC enF (s.2.1 ++ s.2.2)) false (Ob.cells true)) (List.length s.2.1) (↑(smZ s.2.1 (List.length s.2.1)) : Int))))) ∧
       (∃ g : GB, ((Ok (SB.t (GB.s g)) ∧ List.length g.2.2.1 ≤ List.length g.2.3 ∧ List.length g.2.3 ≤ (60 : Nat)) ∧
       (((0 : Nat) = (0 : Nat)) ∧
       ((List.length g.1 = List.length l) ∧
       (((0 : Nat) = (0 : Nat)) ∧
       (((0 : Nat) = (0 : Nat)) ∧
       ((List.length g.2.3 = List.length s.3) ∧
       (((↑g.2.1 : Int) = (↑s.1 : Int)) ∧
       (((0 : Nat) = (0 : Nat)) ∧
       (((↑(smZ g.2.2.1 (0 : Nat)) : Int) = (0 : Int)) ∧
       (((0 : Int) = (0 : Int)) ∧
       ((Eq (α := List Value) (gC enA g.1) (gC enA l)) ∧
       ((Plain (gC enA g.1)) ∧
       (((0 : Nat) = (0 : Nat)) ∧
       ((List.length g.2.2.1 = rsN (Row.mk (gC enF (s.2.1 ++ s.2.2)) false (Ob.cells true)) (List.length s.2.1) s.2.3 (cellI (gC enA l) ((0 : Nat) + Int.toNat (↑s.1 : Int) * (4 : Nat) + (1 : Nat)))) ∧
       (((↑(smZ g.2.2.1 (List.length g.2.2.1)) : Int) = rsS (Row.mk (gC enF (s.2.1 ++ s.2.2)) false (Ob.cells true)) (List.length s.2.1) s.2.3 (cellI (gC enA l) ((0 : Nat) + Int.toNat (↑s.1 : Int) * (4 : Nat) + (1 : Nat)))) ∧
       ((g.2.2.3 = rsM s.2.3 (cellI (gC enA l) ((0 : Nat) + Int.toNat (↑s.1 : Int) * (4 : Nat) + (1 : Nat)))) ∧
       ((Eq (α := List Value) (gC enF (g.2.2.1 ++ g.2.2.2)) (rsC (Row.mk (gC enF (s.2.1 ++ s.2.2)) false (Ob.cells true)) (List.length s.2.1) s.2.3 (cellI (gC enA l) ((0 : Nat) + Int.toNat (↑s.1 : Int) * (4 : Nat) + (1 : Nat))))) ∧
       ((Plain (gC enF (g.2.2.1 ++ g.2.2.2))) ∧
       ((Eq (α := List Value) (gC enF g.2.3) (gC enF s.3)) ∧
       ((Plain (gC enF g.2.3)) ∧
       ((g.3.1 = cellI (gC enA l) ((0 : Nat) + Int.toNat (↑s.1 : Int) * (4 : Nat))) ∧
       ((g.3.2 = cellI (gC enA l) ((0 : Nat) + Int.toNat (↑s.1 : Int) * (4 : Nat) + (1 : Nat))) ∧
       ((bs g.3.3.1 = cellS (gC enA l) ((0 : Nat) + Int.toNat (↑s.1 : Int) * (4 : Nat) + (1 : Nat) + (1 : Nat))) ∧
       ((bs g.3.3.2 = cellS (gC enA l) ((0 : Nat) + Int.toNat (↑s.1 : Int) * (4 : Nat) + (1 : Nat) + (1 : Nat) + (1 : Nat))) ∧
       (∀ (y : Unit), ((True) →
       (br ((↑(smZ g.2.2.1 (List.length g.2.2.1)) : Int) != (↑(smZ g.2.2.1 (List.length g.2.2.1)) : Int))
        False
        (br (decide ((↑(smZ g.2.2.1 (List.length g.2.2.1)) : Int) > g.2.2.3))
         False
         (br (decide (g.2.2.3 > (65536 : Int)))
          False
          (br (g.3.1 != (2 : Int))
           ((Value.int IntKind.i64 g.3.1 = Value.int IntKind.i64 g.3.1) ∧
           ((Value.string (bs g.3.3.1) = Value.string (bs g.3.3.1)) ∧
           ((Value.string (bs g.3.3.1) = Value.string (bs g.3.3.1)) ∧
           ((Value.string (bs g.3.3.2) = Value.string (bs g.3.3.2)) ∧
           ((Value.string (bs g.3.3.2) = Value.string (bs g.3.3.2)) ∧
           (br (decide (IntKind.wrap IntKind.i64 (IntKind.wrap IntKind.i64 (Int.ofNat (List.length (Array.toList (ByteArray.data (bs g.3.3.1)))) + Int.ofNat (List.length (Array.toList (ByteArray.data (bs g.3.3.2))))) + (32 : Int)) ≤ g.2.2.3))
            ((((True ∧ (True ∧ True)) ∧ (((True ∧ (True ∧ (True ∧ True))) ∧ (Plain (gC enF (g.2.2.1 ++ g.2.2.2)) ∧ True)) ∧ ((Plain (gC enF (g.2.2.1 ++ g.2.2.2)) ∧ True) ∧ (IsTg (Row.mk (gC enF (g.2.2.1 ++ g.2.2.2)) false (Ob.cells true)) (List.length g.2.2.1) ∧ I64 (62 : Int)))))) ∧
            (br (!gfK (Row.mk (gC enF (g.2.2.1 ++ g.2.2.2)) false (Ob.cells true)) (List.length g.2.2.1) (62 : Int))
             False
             (br (!(gfA (Row.mk (gC enF (g.2.2.1 ++ g.2.2.2)) false (Ob.cells true)) (List.length g.2.2.1) (62 : Int) == bs g.3.3.1 && (gfB (Row.mk (gC enF (g.2.2.1 ++ g.2.2.2)) false (Ob.cells true)) (List.length g.2.2.1) (62 : Int) == bs g.3.3.2 && true)))
              False
              (∃ j : SB, ((Inv j) ∧
              ((m j < m s) ∧
              (((0 : Nat) = (0 : Nat)) ∧
              ((List.length l = List.length g.1) ∧
              (((0 : Nat) = (0 : Nat)) ∧
              (((0 : Nat) = (0 : Nat)) ∧
              ((List.length j.3 = List.length g.2.3) ∧
              (((↑j.1 : Int) = IntKind.wrap IntKind.i64 ((↑g.2.1 : Int) + (1 : Int))) ∧
              ((Eq (α := List Value) (gC enA l) (gC enA g.1)) ∧
              ((Plain (gC enA l)) ∧
              (((0 : Nat) = (0 : Nat)) ∧
              ((List.length j.2.1 = List.length g.2.2.1) ∧
              (((↑(smZ j.2.1 (List.length j.2.1)) : Int) = (↑(smZ g.2.2.1 (List.length g.2.2.1)) : Int)) ∧
              ((j.2.3 = g.2.2.3) ∧
              ((Eq (α := List Value) (gC enF (j.2.1 ++ j.2.2)) (gC enF (g.2.2.1 ++ g.2.2.2))) ∧
              ((Plain (gC enF (j.2.1 ++ j.2.2))) ∧
              ((Eq (α := List Value) (gC enF j.3) (gC enF g.2.3)) ∧
              ((Plain (gC enF j.3)) ∧
              True))))))))))))))))))))))
            (∃ j : SB, ((Inv j) ∧
            ((m j < m s) ∧
            (((0 : Nat) = (0 : Nat)) ∧
            ((List.length l = List.length g.1) ∧
            (((0 : Nat) = (0 : Nat)) ∧
            (((0 : Nat) = (0 : Nat)) ∧
            ((List.length j.3 = List.length g.2.3) ∧
            (((↑j.1 : Int) = IntKind.wrap IntKind.i64 ((↑g.2.1 : Int) + (1 : Int))) ∧
            ((Eq (α := List Value) (gC enA l) (gC enA g.1)) ∧
            ((Plain (gC enA l)) ∧
            (((0 : Nat) = (0 : Nat)) ∧
            ((List.length j.2.1 = List.length g.2.2.1) ∧
            (((↑(smZ j.2.1 (List.length j.2.1)) : Int) = (↑(smZ g.2.2.1 (List.length g.2.2.1)) : Int)) ∧
            ((j.2.3 = g.2.2.3) ∧
            ((Eq (α := List Value) (gC enF (j.2.1 ++ j.2.2)) (gC enF (g.2.2.1 ++ g.2.2.2))) ∧
            ((Plain (gC enF (j.2.1 ++ j.2.2))) ∧
            ((Eq (α := List Value) (gC enF j.3) (gC enF g.2.3)) ∧
            ((Plain (gC enF j.3)) ∧
            True)))))))))))))))))))))))))
           ((Value.int IntKind.i64 g.3.1 = Value.int IntKind.i64 g.3.1) ∧
           (∃ j : SB, ((Inv j) ∧
           ((m j < m s) ∧
           (((0 : Nat) = (0 : Nat)) ∧
           ((List.length l = List.length g.1) ∧
           (((0 : Nat) = (0 : Nat)) ∧
           (((0 : Nat) = (0 : Nat)) ∧
           ((List.length j.3 = List.length g.2.3) ∧
           (((↑j.1 : Int) = IntKind.wrap IntKind.i64 ((↑g.2.1 : Int) + (1 : Int))) ∧
           ((Eq (α := List Value) (gC enA l) (gC enA g.1)) ∧
           ((Plain (gC enA l)) ∧
           (((0 : Nat) = (0 : Nat)) ∧
           ((List.length j.2.1 = List.length g.2.2.1) ∧
           (((↑(smZ j.2.1 (List.length j.2.1)) : Int) = (↑(smZ g.2.2.1 (List.length g.2.2.1)) : Int)) ∧
           ((j.2.3 = g.2.2.3) ∧
           ((Eq (α := List Value) (gC enF (j.2.1 ++ j.2.2)) (gC enF (g.2.2.1 ++ g.2.2.2))) ∧
           ((Plain (gC enF (j.2.1 ++ j.2.2))) ∧
           ((Eq (α := List Value) (gC enF j.3) (gC enF g.2.3)) ∧
           ((Plain (gC enF j.3)) ∧
           True))))))))))))))))))))))))))))))))))))))))))))))))))))
       ((((True ∧ ((True ∧ (True ∧ True)) ∧ True)) ∧ (((True ∧ (True ∧ (True ∧ True))) ∧ (Plain (gC enF (s.2.1 ++ s.2.2)) ∧ True)) ∧ ((Plain (adC (Row.mk (gC enF (s.2.1 ++ s.2.2)) false (Ob.cells true)) (List.length s.2.1) s.2.3 (cellS (gC enA l) ((0 : Nat) + Int.toNat (↑s.1 : Int) * (4 : Nat) + (1 : Nat) + (1 : Nat))) (cellS (gC enA l) ((0 : Nat) + Int.toNat (↑s.1 : Int) * (4 : Nat) + (1 : Nat) + (1 : Nat) + (1 : Nat)))) ∧ True) ∧ (IsTb (Row.mk (gC enF (s.2.1 ++ s.2.2)) false (Ob.cells true)) (List.length s.2.1) (↑(smZ s.2.1 (List.length s.2.1)) : Int) ∧ (fbZ (cellS (gC enA l) ((0 : Nat) + Int.toNat (↑s.1 : Int) * (4 : Nat) + (1 : Nat) + (1 : Nat))) (cellS (gC enA l) ((0 : Nat) + Int.toNat (↑s.1 : Int) * (4 : Nat) + (1 : Nat) + (1 : Nat) + (1 : Nat))) ≤ (100000000 : Nat) ∧ ((0 : Int) ≤ s.2.3 ∧ s.2.3 ≤ (100000000 : Int)))))))) ∧
       (br (decide (List.length s.3 + (1 : Nat) ≤ (16777216 : Nat)))
        (br (decide ((0 : Nat) + List.length s.3 * (2 : Nat) ≤ List.length (gC enF s.3)))
         (∃ g : GB, ((Ok (SB.t (GB.s g)) ∧ List.length g.2.2.1 ≤ List.length g.2.3 ∧ List.length g.2.3 ≤ (60 : Nat)) ∧
         (((0 : Nat) = (0 : Nat)) ∧
         ((List.length g.1 = List.length l) ∧
         (((0 : Nat) = (0 : Nat)) ∧
         (((0 : Nat) = (0 : Nat)) ∧
         ((List.length g.2.3 = List.length s.3 + (1 : Nat)) ∧
         (((↑g.2.1 : Int) = (↑s.1 : Int)) ∧
         (((0 : Nat) = (0 : Nat)) ∧
         (((↑(smZ g.2.2.1 (0 : Nat)) : Int) = (0 : Int)) ∧
         (((0 : Int) = (0 : Int)) ∧
         ((Eq (α := List Value) (gC enA g.1) (gC enA l)) ∧
         ((Plain (gC enA g.1)) ∧
         (((0 : Nat) = (0 : Nat)) ∧
         ((List.length g.2.2.1 = adN (Row.mk (gC enF (s.2.1 ++ s.2.2)) false (Ob.cells true)) (List.length s.2.1) s.2.3 (cellS (gC enA l) ((0 : Nat) + Int.toNat (↑s.1 : Int) * (4 : Nat) + (1 : Nat) + (1 : Nat))) (cellS (gC enA l) ((0 : Nat) + Int.toNat (↑s.1 : Int) * (4 : Nat) + (1 : Nat) + (1 : Nat) + (1 : Nat)))) ∧
         (((↑(smZ g.2.2.1 (List.length g.2.2.1)) : Int) = adS (Row.mk (gC enF (s.2.1 ++ s.2.2)) false (Ob.cells true)) (List.length s.2.1) s.2.3 (cellS (gC enA l) ((0 : Nat) + Int.toNat (↑s.1 : Int) * (4 : Nat) + (1 : Nat) + (1 : Nat))) (cellS (gC enA l) ((0 : Nat) + Int.toNat (↑s.1 : Int) * (4 : Nat) + (1 : Nat) + (1 : Nat) + (1 : Nat)))) ∧
         ((g.2.2.3 = s.2.3) ∧
         ((Eq (α := List Value) (gC enF (g.2.2.1 ++ g.2.2.2)) (adC (Row.mk (gC enF (s.2.1 ++ s.2.2)) false (Ob.cells true)) (List.length s.2.1) s.2.3 (cellS (gC enA l) ((0 : Nat) + Int.toNat (↑s.1 : Int) * (4 : Nat) + (1 : Nat) + (1 : Nat))) (cellS (gC enA l) ((0 : Nat) + Int.toNat (↑s.1 : Int) * (4 : Nat) + (1 : Nat) + (1 : Nat) + (1 : Nat))))) ∧
         ((Plain (gC enF (g.2.2.1 ++ g.2.2.2))) ∧
         ((Eq (α := List Value) (gC enF g.2.3) (List.take (List.length s.3 * (2 : Nat)) (List.drop (0 : Nat) (gC enF s.3)) ++ [Value.string (cellS (gC enA l) ((0 : Nat) + Int.toNat (↑s.1 : Int) * (4 : Nat) + (1 : Nat) + (1 : Nat))), Value.string (cellS (gC enA l) ((0 : Nat) + Int.toNat (↑s.1 : Int) * (4 : Nat) + (1 : Nat) + (1 : Nat) + (1 : Nat)))])) ∧
         ((Plain (gC enF g.2.3)) ∧
         ((g.3.1 = cellI (gC enA l) ((0 : Nat) + Int.toNat (↑s.1 : Int) * (4 : Nat))) ∧
         ((g.3.2 = cellI (gC enA l) ((0 : Nat) + Int.toNat (↑s.1 : Int) * (4 : Nat) + (1 : Nat))) ∧
         ((bs g.3.3.1 = cellS (gC enA l) ((0 : Nat) + Int.toNat (↑s.1 : Int) * (4 : Nat) + (1 : Nat) + (1 : Nat))) ∧
         ((bs g.3.3.2 = cellS (gC enA l) ((0 : Nat) + Int.toNat (↑s.1 : Int) * (4 : Nat) + (1 : Nat) + (1 : Nat) + (1 : Nat))) ∧
         (∀ (y : Unit), ((True) →
         (br ((↑(smZ g.2.2.1 (List.length g.2.2.1)) : Int) != (↑(smZ g.2.2.1 (List.length g.2.2.1)) : Int))
          False
          (br (decide ((↑(smZ g.2.2.1 (List.length g.2.2.1)) : Int) > g.2.2.3))
           False
           (br (decide (g.2.2.3 > (65536 : Int)))
            False
            (br (g.3.1 != (2 : Int))
             ((Value.int IntKind.i64 g.3.1 = Value.int IntKind.i64 g.3.1) ∧
             ((Value.string (bs g.3.3.1) = Value.string (bs g.3.3.1)) ∧
             ((Value.string (bs g.3.3.1) = Value.string (bs g.3.3.1)) ∧
             ((Value.string (bs g.3.3.2) = Value.string (bs g.3.3.2)) ∧
             ((Value.string (bs g.3.3.2) = Value.string (bs g.3.3.2)) ∧
             (br (decide (IntKind.wrap IntKind.i64 (IntKind.wrap IntKind.i64 (Int.ofNat (List.length (Array.toList (ByteArray.data (bs g.3.3.1)))) + Int.ofNat (List.length (Array.toList (ByteArray.data (bs g.3.3.2))))) + (32 : Int)) ≤ g.2.2.3))
              ((((True ∧ (True ∧ True)) ∧ (((True ∧ (True ∧ (True ∧ True))) ∧ (Plain (gC enF (g.2.2.1 ++ g.2.2.2)) ∧ True)) ∧ ((Plain (gC enF (g.2.2.1 ++ g.2.2.2)) ∧ True) ∧ (IsTg (Row.mk (gC enF (g.2.2.1 ++ g.2.2.2)) false (Ob.cells true)) (List.length g.2.2.1) ∧ I64 (62 : Int)))))) ∧
              (br (!gfK (Row.mk (gC enF (g.2.2.1 ++ g.2.2.2)) false (Ob.cells true)) (List.length g.2.2.1) (62 : Int))
               False
               (br (!(gfA (Row.mk (gC enF (g.2.2.1 ++ g.2.2.2)) false (Ob.cells true)) (List.length g.2.2.1) (62 : Int) == bs g.3.3.1 && (gfB (Row.mk (gC enF (g.2.2.1 ++ g.2.2.2)) false (Ob.cells true)) (List.length g.2.2.1) (62 : Int) == bs g.3.3.2 && true)))
                False
                (∃ j : SB, ((Inv j) ∧
                ((m j < m s) ∧
                (((0 : Nat) = (0 : Nat)) ∧
                ((List.length l = List.length g.1) ∧
                (((0 : Nat) = (0 : Nat)) ∧
                (((0 : Nat) = (0 : Nat)) ∧
                ((List.length j.3 = List.length g.2.3) ∧
                (((↑j.1 : Int) = IntKind.wrap IntKind.i64 ((↑g.2.1 : Int) + (1 : Int))) ∧
                ((Eq (α := List Value) (gC enA l) (gC enA g.1)) ∧
                ((Plain (gC enA l)) ∧
                (((0 : Nat) = (0 : Nat)) ∧
                ((List.length j.2.1 = List.length g.2.2.1) ∧
                (((↑(smZ j.2.1 (List.length j.2.1)) : Int) = (↑(smZ g.2.2.1 (List.length g.2.2.1)) : Int)) ∧
                ((j.2.3 = g.2.2.3) ∧
                ((Eq (α := List Value) (gC enF (j.2.1 ++ j.2.2)) (gC enF (g.2.2.1 ++ g.2.2.2))) ∧
                ((Plain (gC enF (j.2.1 ++ j.2.2))) ∧
                ((Eq (α := List Value) (gC enF j.3) (gC enF g.2.3)) ∧
                ((Plain (gC enF j.3)) ∧
                True))))))))))))))))))))))
              (∃ j : SB, ((Inv j) ∧
              ((m j < m s) ∧
              (((0 : Nat) = (0 : Nat)) ∧
              ((List.length l = List.length g.1) ∧
              (((0 : Nat) = (0 : Nat)) ∧
              (((0 : Nat) = (0 : Nat)) ∧
              ((List.length j.3 = List.length g.2.3) ∧
              (((↑j.1 : Int) = IntKind.wrap IntKind.i64 ((↑g.2.1 : Int) + (1 : Int))) ∧
              ((Eq (α := List Value) (gC enA l) (gC enA g.1)) ∧
              ((Plain (gC enA l)) ∧
              (((0 : Nat) = (0 : Nat)) ∧
              ((List.length j.2.1 = List.length g.2.2.1) ∧
              (((↑(smZ j.2.1 (List.length j.2.1)) : Int) = (↑(smZ g.2.2.1 (List.length g.2.2.1)) : Int)) ∧
              ((j.2.3 = g.2.2.3) ∧
              ((Eq (α := List Value) (gC enF (j.2.1 ++ j.2.2)) (gC enF (g.2.2.1 ++ g.2.2.2))) ∧
              ((Plain (gC enF (j.2.1 ++ j.2.2))) ∧
              ((Eq (α := List Value) (gC enF j.3) (gC enF g.2.3)) ∧
              ((Plain (gC enF j.3)) ∧
              True)))))))))))))))))))))))))
             ((Value.int IntKind.i64 g.3.1 = Value.int IntKind.i64 g.3.1) ∧
             (∃ j : SB, ((Inv j) ∧
             ((m j < m s) ∧
             (((0 : Nat) = (0 : Nat)) ∧
             ((List.length l = List.length g.1) ∧
             (((0 : Nat) = (0 : Nat)) ∧
             (((0 : Nat) = (0 : Nat)) ∧
             ((List.length j.3 = List.length g.2.3) ∧
             (((↑j.1 : Int) = IntKind.wrap IntKind.i64 ((↑g.2.1 : Int) + (1 : Int))) ∧
             ((Eq (α := List Value) (gC enA l) (gC enA g.1)) ∧
             ((Plain (gC enA l)) ∧
             (((0 : Nat) = (0 : Nat)) ∧
             ((List.length j.2.1 = List.length g.2.2.1) ∧
             (((↑(smZ j.2.1 (List.length j.2.1)) : Int) = (↑(smZ g.2.2.1 (List.length g.2.2.1)) : Int)) ∧
             ((j.2.3 = g.2.2.3) ∧
             ((Eq (α := List Value) (gC enF (j.2.1 ++ j.2.2)) (gC enF (g.2.2.1 ++ g.2.2.2))) ∧
             ((Plain (gC enF (j.2.1 ++ j.2.2))) ∧
             ((Eq (α := List Value) (gC enF j.3) (gC enF g.2.3)) ∧
             ((Plain (gC enF j.3)) ∧
             True)))))))))))))))))))))))))))))))))))))))))))))))))))
         False)
        False))))))))
     False)
    (∃ y : Unit, ((True) ∧
    (((0 : Nat) = (0 : Nat)) ∧
    ((List.length l = List.length l) ∧
    ((Eq (α := List Value) (gC enA l) (gC enA l)) ∧
    ((Plain (gC enA l)) ∧
    True)))))))
   (∃ y : Unit, ((True) ∧
   (((0 : Nat) = (0 : Nat)) ∧
   ((List.length l = List.length l) ∧
   ((Eq (α := List Value) (gC enA l) (gC enA l)) ∧
   ((Plain (gC enA l)) ∧
   True))))))) := by kernel_rfl
theorem Bd_vc (most : Int) (l : List Asx) : mcall EtTw mB1 60 5 [.int .i64 most, .slice (some ⟨0, 0, none⟩) l.length 4] ⟨mkR (nums 0 [gRo enA l]), 1⟩ (retIs 1 (.bool true) [gRo enA l]) =
  ((((True ∧ (True ∧ (True ∧ True))) ∧ (True ∧ (True ∧ (I64 most ∧ ((-1000000000000 : Int) ≤ (0 : Int) ∧ ((65536 : Int) ≤ (1000000000000 : Int) ∧ (0 : Int) ≤ (65536 : Int)))))))) ∧
  (br (decide (inside most (0 : Int) (65536 : Int) < (0 : Int)))
   ((true = false) ∧
   ((Eq (α := List Value) (gC enA l) (gC enA l)) ∧
   ((Plain (gC enA l)) ∧
   True)))
   (br (decide (inside most (0 : Int) (65536 : Int) > (65536 : Int)))
    ((true = false) ∧
    ((Eq (α := List Value) (gC enA l) (gC enA l)) ∧
    ((Plain (gC enA l)) ∧
    True)))
    (∃ g : GB0, (((∀ (a : Asx), a ∈ GB0.l g → List.length (Fl.n (Asx.f a)) ≤ (1048576 : Nat) ∧ List.length (Fl.v (Asx.f a)) ≤ (1048576 : Nat)) ∧ (0 : Int) ≤ g.2 ∧ g.2 ≤ (65536 : Int)) ∧
    (((0 : Nat) = (0 : Nat)) ∧
    ((List.length g.1 = List.length l) ∧
    (((0 : Nat) = (0 : Nat)) ∧
    (((0 : Nat) = (0 : Nat)) ∧
    (((↑(0 : Nat) : Int) = (0 : Int)) ∧
    ((Eq (α := List Value) (gC enA g.1) (gC enA l)) ∧
    ((Plain (gC enA g.1)) ∧
    (((0 : Nat) = (0 : Nat)) ∧
    (((↑(smZ [] (0 : Nat)) : Int) = (0 : Int)) ∧
    ((g.2 = inside most (0 : Int) (65536 : Int)) ∧
    ((Eq (α := List Value) ([]) ([])) ∧
    ((Eq (α := List Value) ([]) ([])) ∧
    (∀ (y : Unit), ((True) →
    (((True ∧ (True ∧ (True ∧ True)))) ∧
    ((true = true) ∧
    ((Eq (α := List Value) (gC enA l) (gC enA g.1)) ∧
    ((Plain (gC enA l)) ∧
    True))))))))))))))))))))))) := by kernel_rfl
theorem B2_piece : PieceOk EtTw 1 (5, pB2, specB2) := by
  refine piece_loop mixed (calls_envT tTw_ok) (lok_envT _ _) lm_none (n := 60) (by kernel_rfl) (fun _ : GB => 0) (fun g k => k ≤ g.s.t.l.length) (fun g k => g.s.t.l.length - k) (sl := slB2) (rl := fun g _ => rlB2 g) (fun g hg => Nat.zero_le _) (fun g k hg hi => ?_)
  refine (B2_round g k _ _).mpr ?_
  obtain ⟨al, ⟨si, ⟨tl, tj, tm⟩, ad⟩, a⟩ := g
  simp only at hi hg
  obtain ⟨⟨g1, g2, g3⟩, g4, g5⟩ := hg
  simp only at g1 g2 g3
  have hl := ok_len tl
  have w2 : IntKind.i64.wrap ((k : Int) + 1) = ((k + 1 : Nat) : Int) := by rw [wr64_id (by unfold I64; omega)]; omega
  have w1 : IntKind.i64.wrap (62 + (k : Int)) = ((k + 62 : Nat) : Int) := by rw [wr64_id (by unfold I64; omega)]; omega
  obtain ⟨e1, e2, e3⟩ := gf_mk tl tj false (.cells true) ((k + 62 : Nat) : Int)
  simp only [ofNat_eq, toNat_cast, Nat.zero_add, Nat.add_zero, Nat.mul_one, List.drop_zero, bCells_len, bCells_drop, bCells_take, bCells_app, bCells_one, bCells_plain, List.length_replicate, List.length_append, List.length_take, List.length_drop, List.take_length, and_true, true_and, and_self, decide_true, List.length_nil, List.length_cons, Nat.sub_zero, dB_mk, dB_ro, List.take_zero, z_smZ, asPl, fPl, w1, w2, e1, e2, e3]
  refine br_if (fun h => ?_) (fun h => ⟨(), ?_⟩)
  · have hk : k < tl.length := by omega
    have hn : (((k + 62 : Nat) : Int) - 62).toNat < tl.length := by omega
    have hq : (((k + 62 : Nat) : Int) - 62).toNat = k := by omega
    have ok : getF tl ((k + 62 : Nat) : Int) = (tl[k], true) := by
      unfold getF; rw [if_neg (by omega), if_pos hn]; congr 1
      rw [hq, List.getD_eq_getElem?_getD, List.getElem?_eq_getElem hk]; rfl
    have hI : I64 ((k + 62 : Nat) : Int) := by unfold I64; omega
    have hs := smN_take tl k hk
    have hle := smN_le tl (k + 1)
    have f1 : (bs tl[k].n).data.toList.length = tl[k].n.length := rfl
    have f2 : (bs tl[k].v).data.toList.length = tl[k].v.length := rfl
    rw [ok]
    simp only [f1, f2]
    have hf : fbN tl[k] = tl[k].n.length + tl[k].v.length + 32 := rfl
    rw [wr64_id (n := ((smN (List.take k tl) : Nat) : Int) + (tl[k].n.length : Int)) (by unfold I64; omega), wr64_id (n := ((smN (List.take k tl) : Nat) : Int) + (tl[k].n.length : Int) + (tl[k].v.length : Int)) (by unfold I64; omega), wr64_id (by unfold I64; omega)]
    have fin : ∃ j : Nat, j ≤ tl.length ∧ tl.length - j < tl.length - k ∧ ((smN (List.take j tl) : Nat) : Int) = ((smN (List.take k tl) : Nat) : Int) + (tl[k].n.length : Int) + (tl[k].v.length : Int) + 32 ∧ (j : Int) = ((k + 1 : Nat) : Int) := ⟨k + 1, by omega, by omega, by omega, rfl⟩
    exact ⟨⟨isTg_mk _ _ (by omega), hI⟩, br_nb rfl (br_if (fun _ => br_nd (by omega) fin) (fun _ => fin))⟩
  · have : k = tl.length := by omega
    rw [this, List.take_length]
theorem tailB (u : Tb) (a : Asx) (K : Prop) (hK : K) (ok : Ok u) (ha : a.f.n.length ≤ 1048576 ∧ a.f.v.length ≤ 1048576) (hh : a.k ≠ 2 → (fbN a.f : Int) ≤ u.most → ∃ r, u.l = a.f :: r) : br (((smN u.l : Nat) : Int) != ((smN u.l : Nat) : Int)) False (br (decide (((smN u.l : Nat) : Int) > u.most)) False (br (decide (u.most > 65536)) False (br (a.k != 2) (br (decide (IntKind.i64.wrap (IntKind.i64.wrap (((bs a.f.n).data.toList.length : Int) + ((bs a.f.v).data.toList.length : Int)) + 32) ≤ u.most)) ((IsTg ⟨gC enF (u.l ++ u.j), false, .cells true⟩ u.l.length ∧ I64 62) ∧ br (!gfK ⟨gC enF (u.l ++ u.j), false, .cells true⟩ u.l.length 62) False (br (!(gfA ⟨gC enF (u.l ++ u.j), false, .cells true⟩ u.l.length 62 == bs a.f.n && (gfB ⟨gC enF (u.l ++ u.j), false, .cells true⟩ u.l.length 62 == bs a.f.v && true))) False K)) K) K))) := by
  obtain ⟨o1, o2, o3⟩ := ok
  have hl := ok_len u.l
  have e1 : (bs a.f.n).data.toList.length = a.f.n.length := rfl
  have e2 : (bs a.f.v).data.toList.length = a.f.v.length := rfl
  rw [e1, e2, wr64_id (n := (a.f.n.length : Int) + (a.f.v.length : Int)) (by unfold I64; omega), wr64_id (by unfold I64; omega)]
  refine br_nb (by simp) (br_nd (by omega) (br_nd (by omega) (br_intro (fun h => br_if (fun h2 => ?_) (fun _ => hK)) (fun _ => hK))))
  have hf : fbN a.f = a.f.n.length + a.f.v.length + 32 := rfl
  obtain ⟨r, hr⟩ := hh (by simpa using h) (by omega)
  obtain ⟨g1, g2, g3⟩ := gf_mk u.l u.j false (.cells true) 62
  have hg : getF u.l 62 = (a.f, true) := by
    unfold getF; rw [if_neg (by omega), hr, if_pos (by simp)]; rfl
  rw [hg] at g1 g2 g3
  rw [g1, g2, g3]
  simp only [bq_bs]
  exact ⟨⟨isTg_mk _ _ (by omega), by unfold I64; omega⟩, br_nb rfl (br_nb (by simp) hK)⟩
theorem asGet2 (l : List Asx) (i : Nat) (h : i < l.length) : (gC enA l)[i * 4]? = some (.int .i64 l[i].k) ∧ (gC enA l)[i * 4 + 1]? = some (.int .i64 l[i].n) ∧ (gC enA l)[i * 4 + 1 + 1]? = some (.string (bs l[i].f.n)) ∧ (gC enA l)[i * 4 + 1 + 1 + 1]? = some (.string (bs l[i].f.v)) ∧ cellI (gC enA l) (i * 4) = l[i].k ∧ cellI (gC enA l) (i * 4 + 1) = l[i].n ∧ cellS (gC enA l) (i * 4 + 1 + 1) = bs l[i].f.n ∧ cellS (gC enA l) (i * 4 + 1 + 1 + 1) = bs l[i].f.v := asGet l i h
theorem rs_len (t : Tb) (n : Int) : (rsT t n).l.length ≤ t.l.length := by
  unfold rsT; split
  · exact Nat.le_refl _
  · simp only [List.length_take]; omega
theorem ad_len (t : Tb) (f : Fl) : (addT t f).l.length ≤ t.l.length + 1 := by
  unfold addT; split
  · simp only [List.length_take]; omega
  · simp only [List.length_cons, List.length_take]; omega
theorem B1_piece : PieceOk EtTw 1 (5, pB1, specB1) := by
  refine piece_loop mixed (calls_envT tTw_ok) (lok_envT _ _) (lm_one B2_piece) (n := 60) (by kernel_rfl) (fun g : GB0 => (⟨0, ⟨[], [], g.m⟩, []⟩ : SB)) (fun g s => s.i ≤ g.l.length ∧ Ok s.t ∧ s.t.l.length ≤ s.ad.length ∧ s.ad.length ≤ s.i ∧ s.i ≤ 60) (fun g s => g.l.length - s.i) (sl := fun g => slB1 g.l) (rl := fun g => rlB1 g.l) (fun g hg => ⟨Nat.zero_le _, ⟨hg.2.1, hg.2.1, hg.2.2⟩, by simp, by simp, by simp⟩) (fun g s hg hi => ?_)
  obtain ⟨h1, h2, h3, h4, h5⟩ := hi
  obtain ⟨hg, _⟩ := hg
  refine (B1_round g.l s _ _).mpr ?_
  obtain ⟨i, ⟨tl, tj, tm⟩, ad⟩ := s
  simp only at h1 h2 h3 h4 h5
  have one : ∀ l : List Fl, smN (l.take l.length) = smN l := fun l => by rw [List.take_length]
  have rN : ∀ l j m k, rsN ⟨gC enF (l ++ j), false, .cells true⟩ l.length m k = (rsT ⟨l, j, m⟩ k).l.length := fun l j m k => (rs_mk l j m k).1
  have rS : ∀ l j m k, rsS ⟨gC enF (l ++ j), false, .cells true⟩ l.length m k = (smN (rsT ⟨l, j, m⟩ k).l : Nat) := fun l j m k => (rs_mk l j m k).2.1
  have rC : ∀ l j m k, rsC ⟨gC enF (l ++ j), false, .cells true⟩ l.length m k = gC enF ((rsT ⟨l, j, m⟩ k).l ++ (rsT ⟨l, j, m⟩ k).j) := fun l j m k => (rs_mk l j m k).2.2
  have aN : ∀ l j m a b, adN ⟨gC enF (l ++ j), false, .cells true⟩ l.length m (bs a) (bs b) = (addT ⟨l, j, m⟩ ⟨a, b⟩).l.length := fun l j m a b => (ad_mk l j m a b).1
  have aS : ∀ l j m a b, adS ⟨gC enF (l ++ j), false, .cells true⟩ l.length m (bs a) (bs b) = (smN (addT ⟨l, j, m⟩ ⟨a, b⟩).l : Nat) := fun l j m a b => (ad_mk l j m a b).2.1
  have aC : ∀ l j m a b, adC ⟨gC enF (l ++ j), false, .cells true⟩ l.length m (bs a) (bs b) = gC enF ((addT ⟨l, j, m⟩ ⟨a, b⟩).l ++ (addT ⟨l, j, m⟩ ⟨a, b⟩).j) := fun l j m a b => (ad_mk l j m a b).2.2
  simp only [ofNat_eq, toNat_cast, Nat.zero_add, Nat.add_zero, Nat.mul_one, List.drop_zero, bCells_len, bCells_drop, bCells_take, bCells_app, bCells_one, bCells_plain, List.length_replicate, List.length_append, List.length_take, List.length_drop, List.take_length, and_true, true_and, and_self, decide_true, List.length_nil, List.length_cons, Nat.sub_zero, dB_mk, dB_ro, List.take_zero, z_smZ, asPl, fPl, one]
  refine br_if (fun h => br_if (fun h60 => br_dec (by omega) ?_) (fun h60 => ⟨(), trivial⟩)) (fun h => ⟨(), trivial⟩)
  have hi : i < g.l.length := by omega
  obtain ⟨c0, c1, c2, c3, d0, d1, d2, d3⟩ := asGet2 g.l i hi
  have e2 : (bs g.l[i].f.n).data.toList.length = g.l[i].f.n.length := bs_len _
  have e3 : (bs g.l[i].f.v).data.toList.length = g.l[i].f.v.length := bs_len _
  obtain ⟨l1, l2⟩ := hg _ (List.getElem_mem hi)
  have wl : IntKind.i64.wrap ((g.l[i].f.n.length : Int) + (g.l[i].f.v.length : Int)) = (g.l[i].f.n.length : Int) + (g.l[i].f.v.length : Int) := wr64_id (by unfold I64; omega)
  have w1 : IntKind.i64.wrap ((i : Int) + 1) = ((i + 1 : Nat) : Int) := by rw [wr64_id (by unfold I64; omega)]; omega
  have ib := isTb_mk ⟨tl, tj, tm⟩ h2
  simp only at ib
  have hM : rsM tm g.l[i].n = (rsT ⟨tl, tj, tm⟩ g.l[i].n).most := by rw [z_rsM, rsT_m]
  simp only [c0, c1, c2, c3, d0, d1, d2, d3, rN, rS, rC, aN, aS, aC, hM, true_and, fPl]
  have hk : IntKind.i64.wrap (((bs g.l[i].f.n).data.toList.length : Int) + ((bs g.l[i].f.v).data.toList.length : Int)) = (g.l[i].f.n.length : Int) + (g.l[i].f.v.length : Int) := by rw [e2, e3, wl]
  rw [hk]
  refine br_if (fun hb => ?_) (fun hb => br_intro (fun hk => ⟨ib, ?_⟩) (fun hk => ?_))
  · exact ⟨⟨i + 1, ⟨tl, tj, tm⟩, ad⟩, ⟨by simp only; omega, h2, h3, by simp only; omega, by simp only; omega⟩, by simp only; omega, rfl, w1.symm, rfl, rfl, rfl, rfl, rfl⟩
  · have hO := ok_rs ⟨tl, tj, tm⟩ g.l[i].n h2
    have hL := rs_len ⟨tl, tj, tm⟩ g.l[i].n
    generalize rsT ⟨tl, tj, tm⟩ g.l[i].n = u at hO hL ⊢
    simp only at hL
    refine ⟨⟨g.l, ⟨i, u, ad⟩, g.l[i]⟩, ⟨hO, by simp only; omega, by simp only; omega⟩, rfl, rfl, rfl, rfl, rfl, rfl, rfl, rfl, rfl, rfl, rfl, rfl, rfl, rfl, fun _ _ => ?_⟩
    refine tailB u g.l[i] _ ⟨⟨i + 1, u, ad⟩, ⟨by simp only; omega, hO, by simp only; omega, by simp only; omega, by simp only; omega⟩, by simp only; omega, rfl, rfl, w1.symm, rfl, rfl, rfl, rfl, rfl, rfl⟩ hO ⟨l1, l2⟩ (fun h2 => absurd (eq_of_beq hk) h2)
  · have hO := ok_ad ⟨tl, tj, tm⟩ ⟨g.l[i].f.n, g.l[i].f.v⟩ h2
    have hA : (addT ⟨tl, tj, tm⟩ ⟨g.l[i].f.n, g.l[i].f.v⟩).most = tm := addT_m _ _
    have hL := ad_len ⟨tl, tj, tm⟩ ⟨g.l[i].f.n, g.l[i].f.v⟩
    have hf : fbZ (bs g.l[i].f.n) (bs g.l[i].f.v) ≤ 100000000 := by
      rw [z_fbZ]; unfold fbN; rw [L_bs, L_bs]; simp only; omega
    have hH : (fbN g.l[i].f : Int) ≤ tm → ∃ r, (addT ⟨tl, tj, tm⟩ ⟨g.l[i].f.n, g.l[i].f.v⟩).l = g.l[i].f :: r := fun q => by
      unfold addT; rw [if_neg (by unfold fbN at q ⊢; simp only; omega)]; exact ⟨_, rfl⟩
    generalize addT ⟨tl, tj, tm⟩ ⟨g.l[i].f.n, g.l[i].f.v⟩ = u at hO hA hL hH ⊢
    obtain ⟨q0, q1, q2⟩ := h2
    simp only at q0 q1 q2 hL
    have tk : List.take (ad.length * 2) (gC enF ad) = gC enF ad := fTake ad
    rw [tk]
    refine ⟨⟨ib, hf, q1, by omega⟩, br_dec (by omega) (br_dec (by rw [fLen]; omega) ⟨⟨g.l, ⟨i, u, ad ++ [g.l[i].f]⟩, g.l[i]⟩, ⟨hO, by simp only [List.length_append, List.length_cons, List.length_nil]; omega, by simp only [List.length_append, List.length_cons, List.length_nil]; omega⟩, rfl, by simp, rfl, rfl, rfl, rfl, rfl, hA, rfl, ?_, rfl, rfl, rfl, rfl, fun _ _ => ?_⟩)⟩
    · simp only; rw [← gC_app]; rfl
    · refine tailB u g.l[i] _ ⟨⟨i + 1, u, ad ++ [g.l[i].f]⟩, ⟨by simp only; omega, hO, by simp only [List.length_append, List.length_cons, List.length_nil]; omega, by simp only [List.length_append, List.length_cons, List.length_nil]; omega, by simp only; omega⟩, by simp only; omega, rfl, rfl, w1.symm, rfl, rfl, rfl, rfl, rfl, rfl⟩ hO ⟨l1, l2⟩ (fun _ h2 => hH (by omega))
theorem Bd_law (most : Int) (l : List Asx) (hm : I64 most) (hl : l.length ≤ 1048576) (h : ∀ a ∈ l, (I64 a.k ∧ I64 a.n) ∧ a.f.n.length ≤ 1048576 ∧ a.f.v.length ≤ 1048576) : Con Try.prog 5 [.int .i64 most, .slice (some ⟨0, 0, none⟩) l.length 4] [gRo enA l] (.bool true) [gRo enA l] := by
  refine con_vc (E := EtTw) mixed (calls_envT tTw_ok) (lok_envT _ _) (M := mB1) (lm_one B1_piece) (Bd_vc most l) ?_
  obtain ⟨i1, i2⟩ := inside_in most 0 65536 (by omega)
  simp only [ofNat_eq, toNat_cast, Nat.zero_add, Nat.add_zero, Nat.mul_one, List.drop_zero, bCells_len, bCells_drop, bCells_take, bCells_app, bCells_one, bCells_plain, List.length_replicate, List.length_append, List.length_take, List.length_drop, List.take_length, and_true, true_and, and_self, decide_true, List.length_nil, List.length_cons, Nat.sub_zero, dB_mk, dB_ro, List.take_zero, z_smZ, asPl, fPl]
  exact ⟨⟨hm, by omega, by omega, by omega⟩, br_nd (by omega) (br_nd (by omega) ⟨⟨l, inside most 0 65536⟩, ⟨fun a ha => (h a ha).2, i1, i2⟩, rfl, rfl, rfl, rfl, rfl, fun _ _ => rfl⟩)⟩
end Go.Proofs.Ytpfigiokmcojeaa.tb
