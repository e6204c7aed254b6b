/- The laws: a block is no longer than its fields' bytes; what is secret is in no table; what is written again is short. -/
import Derived.Test.YtlkinjlbaeigdaaSz9
import Derived.Test.YtlkinjlbaeigdaaRows
import Derived.Test.YtlkinjlbaeigdaaLpkE
set_option maxRecDepth 20000
set_option linter.unusedSimpArgs false
set_option linter.unusedVariables false
namespace Go.Proofs.Ytlkinjlbaeigdaa.pk
open Go Go.Ev Go.Sy Go.RowKit Go.Proofs.Ytlkinjlbaeigdaa.gl Go.Proofs.Ytlkinjlbaeigdaa.tk Go.Proofs.Ytlkinjlbaeigdaa.hf Go.Proofs.Ytlkinjlbaeigdaa.s3 Go.Proofs.Ytlkinjlbaeigdaa.tb Go.Proofs.Ytlkinjlbaeigdaa.sh
noncomputable def tPB : List EntM := [eLi, eRunsP, eSameB, eFbE, eBlk]
noncomputable abbrev EtPB : Env := envT Try.prog tPB
def pPb : List Nat := [0, 1, 0, 1, 1, 1, 1, 1]
def rwP (m : Int) (r : Nat) : List (Nat × Row) := [(r, ⟨[.pointer (some ⟨r + 1, 0, none⟩), .bool false, .int .i64 0], false, .cells false⟩), (r + 1, ⟨[.slice (some ⟨r + 2, 0, none⟩) 0 2, .int .i64 0, .int .i64 m], false, .cells false⟩), (r + 2, ⟨[], false, .cells true⟩)]
noncomputable def slPb (l : List Wr) (i : Nat) : List (Nat × Value) := [(0, .slice (some ⟨0, 0, none⟩) l.length 3), (3, .pointer (some ⟨1, 0, none⟩)), (5, .int .i64 (wsZ0 l i : Nat)), (6, .int .i64 (i : Nat))]
noncomputable def rlPb (l : List Wr) : List (Nat × Row) := (0, gRo enW l) :: rwP 4096 1
noncomputable def wsPb (l : List Wr) : List (Gate Unit) := [⟨.exit 0, fun _ => True, fun _ => [(0, .slice (some ⟨0, 0, none⟩) l.length 3), (3, .pointer (some ⟨1, 0, none⟩)), (5, .int .i64 (wsZ0 l l.length : Nat))], fun _ => rlPb l, 4⟩]
noncomputable def specPb : Sy.Spec := specOf 1 4 44 (fun l : List Wr => wSum l ≤ 3000) (fun l => slPb l 0) rlPb wsPb
noncomputable def mPb := mOf [(8, pPb, specPb)]
def ownW (hf : Nat → Int) (l : List Wr) (i : Nat) : List Wr := l.mapIdx fun j w => if j < i then ⟨w.f, hf j⟩ else w
theorem ow_ex (f : List Wr → Nat → List Value) : ∃ g, g = f := ⟨f, rfl⟩
def hSec (j : Nat) : Int := 2 + ((j % 2 : Nat) : Int)
def hOne (_ : Nat) : Int := 1
noncomputable def ow2 : List Wr → Nat → List Value := Classical.choose (ow_ex fun l i => gC enW (ownW hSec l i))
noncomputable def ow1 : List Wr → Nat → List Value := Classical.choose (ow_ex fun l i => gC enW (ownW hOne l i))
noncomputable def slPs (l : List Wr) (i : Nat) : List (Nat × Value) := [(0, .slice (some ⟨0, 0, none⟩) l.length 3), (3, .pointer (some ⟨1, 0, none⟩)), (5, .slice (some ⟨4, 0, none⟩) l.length 3), (6, .int .i64 (i : Nat))]
noncomputable def slPs0 (l : List Wr) : List (Nat × Value) := [(0, .slice (some ⟨0, 0, none⟩) l.length 3), (3, .pointer (some ⟨1, 0, none⟩)), (5, .slice (some ⟨4, 0, none⟩) l.length 3)]
noncomputable def rlPs (l : List Wr) (i : Nat) : List (Nat × Row) := (0, gRo enW l) :: rwP 4096 1 ++ [(4, ⟨ow2 l i, false, .cells true⟩)]
noncomputable def rlPh (l : List Wr) (i : Nat) : List (Nat × Row) := (0, gRo enW l) :: rwP 65536 1 ++ [(4, ⟨ow1 l i, false, .cells true⟩)]
noncomputable def wsPs (l : List Wr) : List (Gate Unit) := [⟨.exit 0, fun _ => True, fun _ => slPs0 l, fun _ => rlPs l l.length, 5⟩]
noncomputable def wsPh (l : List Wr) : List (Gate Unit) := [⟨.exit 0, fun _ => True, fun _ => slPs0 l, fun _ => rlPh l l.length, 5⟩]
noncomputable def specPs : Sy.Spec := specOf 1 5 73 (fun l : List Wr => l.length ≤ 20) (fun l => slPs l 0) (fun l => rlPs l 0) wsPs
noncomputable def specPh : Sy.Spec := specOf 1 5 67 (fun l : List Wr => l.length ≤ 20) (fun l => slPs l 0) (fun l => rlPh l 0) wsPh
noncomputable def mPs := mOf [(7, pPb, specPs)]
noncomputable def mPh := mOf [(6, pPb, specPh)]
theorem Ps_round (l : List Wr) (i : Nat) (Inv : Nat → Prop) (m : Nat → Nat) : mev EtPB noM 60 7 (0 :: pPb) false (codeOf Try.prog 7 (0 :: pPb)) ⟨mkOv (slPs l i), 73, []⟩ none ⟨mkR (rlPs l i), 5⟩ (roundK 1 5 73 Inv m (slPs l) (rlPs l) (wsPs l) i) =
  (br (decide ((↑i : Int) < Int.ofNat (List.length l)))
   (br (decide ((0 : Int) ≤ (↑i : Int) ∧ (↑i : Int) < (↑(List.length l) : Int)))
    (br (decide ((0 : Nat) + Int.toNat (↑i : Int) * (3 : Nat) + (2 : Nat) + (1 : Nat) ≤ List.length (ow2 l i)))
     (∃ j : Nat, ((Inv j) ∧
     ((m j < m i) ∧
     (((0 : Nat) = (0 : Nat)) ∧
     ((List.length l = List.length l) ∧
     (((0 : Nat) = (0 : Nat)) ∧
     (((0 : Nat) = (0 : Nat)) ∧
     ((List.length l = List.length l) ∧
     (((↑j : Int) = IntKind.wrap IntKind.i64 ((↑i : Int) + (1 : Int))) ∧
     ((Eq (α := List Value) (gC enW l) (gC enW l)) ∧
     ((Plain (gC enW l)) ∧
     (((0 : Nat) = (0 : Nat)) ∧
     ((false = false) ∧
     (((0 : Int) = (0 : Int)) ∧
     (((0 : Nat) = (0 : Nat)) ∧
     (((0 : Nat) = (0 : Nat)) ∧
     (((0 : Int) = (0 : Int)) ∧
     (((4096 : Int) = (4096 : Int)) ∧
     ((Eq (α := List Value) ([]) ([])) ∧
     ((Plain []) ∧
     ((Eq (α := List Value) (ow2 l j) (ovr (ow2 l i) ((0 : Nat) + Int.toNat (↑i : Int) * (3 : Nat) + (2 : Nat)) [Value.int IntKind.i64 (IntKind.wrap IntKind.i64 ((2 : Int) + Int.tmod (↑i : Int) (2 : Int)))])) ∧
     ((Plain (ow2 l j)) ∧
     True))))))))))))))))))))))
     False)
    False)
   (∃ y : Unit, ((True) ∧
   (((0 : Nat) = (0 : Nat)) ∧
   ((List.length l = List.length l) ∧
   (((0 : Nat) = (0 : Nat)) ∧
   (((0 : Nat) = (0 : Nat)) ∧
   ((List.length l = List.length l) ∧
   ((Eq (α := List Value) (gC enW l) (gC enW l)) ∧
   ((Plain (gC enW l)) ∧
   (((0 : Nat) = (0 : Nat)) ∧
   ((false = false) ∧
   (((0 : Int) = (0 : Int)) ∧
   (((0 : Nat) = (0 : Nat)) ∧
   (((0 : Nat) = (0 : Nat)) ∧
   (((0 : Int) = (0 : Int)) ∧
   (((4096 : Int) = (4096 : Int)) ∧
   ((Eq (α := List Value) ([]) ([])) ∧
   ((Plain []) ∧
   ((Eq (α := List Value) (ow2 l (List.length l)) (ow2 l i)) ∧
   ((Plain (ow2 l (List.length l))) ∧
   True))))))))))))))))))))) := by kernel_rfl
theorem Ph_round (l : List Wr) (i : Nat) (Inv : Nat → Prop) (m : Nat → Nat) : mev EtPB noM 60 6 (0 :: pPb) false (codeOf Try.prog 6 (0 :: pPb)) ⟨mkOv (slPs l i), 67, []⟩ none ⟨mkR (rlPh l i), 5⟩ (roundK 1 5 67 Inv m (slPs l) (rlPh l) (wsPh l) i) =
  (br (decide ((↑i : Int) < Int.ofNat (List.length l)))
   (br (decide ((0 : Int) ≤ (↑i : Int) ∧ (↑i : Int) < (↑(List.length l) : Int)))
    (br (decide ((0 : Nat) + Int.toNat (↑i : Int) * (3 : Nat) + (2 : Nat) + (1 : Nat) ≤ List.length (ow1 l i)))
     (∃ j : Nat, ((Inv j) ∧
     ((m j < m i) ∧
     (((0 : Nat) = (0 : Nat)) ∧
     ((List.length l = List.length l) ∧
     (((0 : Nat) = (0 : Nat)) ∧
     (((0 : Nat) = (0 : Nat)) ∧
     ((List.length l = List.length l) ∧
     (((↑j : Int) = IntKind.wrap IntKind.i64 ((↑i : Int) + (1 : Int))) ∧
     ((Eq (α := List Value) (gC enW l) (gC enW l)) ∧
     ((Plain (gC enW l)) ∧
     (((0 : Nat) = (0 : Nat)) ∧
     ((false = false) ∧
     (((0 : Int) = (0 : Int)) ∧
     (((0 : Nat) = (0 : Nat)) ∧
     (((0 : Nat) = (0 : Nat)) ∧
     (((0 : Int) = (0 : Int)) ∧
     (((65536 : Int) = (65536 : Int)) ∧
     ((Eq (α := List Value) ([]) ([])) ∧
     ((Plain []) ∧
     ((Eq (α := List Value) (ow1 l j) (ovr (ow1 l i) ((0 : Nat) + Int.toNat (↑i : Int) * (3 : Nat) + (2 : Nat)) [Value.int IntKind.i64 (1 : Int)])) ∧
     ((Plain (ow1 l j)) ∧
     True))))))))))))))))))))))
     False)
    False)
   (∃ y : Unit, ((True) ∧
   (((0 : Nat) = (0 : Nat)) ∧
   ((List.length l = List.length l) ∧
   (((0 : Nat) = (0 : Nat)) ∧
   (((0 : Nat) = (0 : Nat)) ∧
   ((List.length l = List.length l) ∧
   ((Eq (α := List Value) (gC enW l) (gC enW l)) ∧
   ((Plain (gC enW l)) ∧
   (((0 : Nat) = (0 : Nat)) ∧
   ((false = false) ∧
   (((0 : Int) = (0 : Int)) ∧
   (((0 : Nat) = (0 : Nat)) ∧
   (((0 : Nat) = (0 : Nat)) ∧
   (((0 : Int) = (0 : Int)) ∧
   (((65536 : Int) = (65536 : Int)) ∧
   ((Eq (α := List Value) ([]) ([])) ∧
   ((Plain []) ∧
   ((Eq (α := List Value) (ow1 l (List.length l)) (ow1 l i)) ∧
   ((Plain (ow1 l (List.length l))) ∧
   True))))))))))))))))))))) := by kernel_rfl
theorem Ps_vc (l : List Wr) : mcall EtPB mPs 60 7 [.slice (some ⟨0, 0, none⟩) l.length 3] ⟨mkR (nums 0 [gRo enW l]), 1⟩ (retIs 1 (.bool true) [gRo enW l]) =
  (br (decide (Int.ofNat (List.length l) > (20 : Int)))
   (((True ∧ (True ∧ (True ∧ True)))) ∧
   ((true = true) ∧
   ((Eq (α := List Value) (gC enW l) (gC enW l)) ∧
   ((Plain (gC enW l)) ∧
   True))))
   ((((((0 : Nat) + List.length l * (3 : Nat) ≤ List.length (gC enW l) ∧ Plain (List.take (List.length l * (3 : Nat)) (List.drop (0 : Nat) (gC enW l)))) ∧ True) ∧ ((True ∧ True) ∧ (True ∧ IsWo (Row.mk (List.take (List.length l * (3 : Nat)) (List.drop (0 : Nat) (gC enW l))) true (Ob.cells true)) (List.length l))))) ∧
   (br (!ltR (Row.mk (List.take (List.length l * (3 : Nat)) (List.drop (0 : Nat) (gC enW l))) true (Ob.cells true)))
    (((True ∧ (True ∧ (True ∧ True)))) ∧
    ((true = true) ∧
    ((Eq (α := List Value) (gC enW l) (gC enW l)) ∧
    ((Plain (gC enW l)) ∧
    True))))
    (br (decide ((0 : Nat) + List.length l * (3 : Nat) ≤ List.length (gC enW l)))
     (br (allOne (List.take (List.length l * (3 : Nat)) (List.drop (0 : Nat) (gC enW l))))
      (br (decide ((0 : Nat) + List.length l ≤ (16777216 : Nat)))
       (∃ g : List Wr, ((List.length g ≤ (20 : Nat)) ∧
       (((0 : Nat) = (0 : Nat)) ∧
       ((List.length g = List.length l) ∧
       (((0 : Nat) = (0 : Nat)) ∧
       (((0 : Nat) = (0 : Nat)) ∧
       ((List.length g = (0 : Nat) + List.length l) ∧
       (((0 : Int) = (0 : Int)) ∧
       ((Eq (α := List Value) (gC enW g) (gC enW l)) ∧
       ((Plain (gC enW g)) ∧
       (((0 : Nat) = (0 : Nat)) ∧
       ((false = false) ∧
       (((0 : Int) = (0 : Int)) ∧
       (((0 : Nat) = (0 : Nat)) ∧
       (((0 : Int) = (0 : Int)) ∧
       (((4096 : Int) = (4096 : Int)) ∧
       ((Eq (α := List Value) ([]) ([])) ∧
       ((Eq (α := List Value) (ow2 g (0 : Nat)) ([] ++ List.take (List.length l * (3 : Nat)) (List.drop (0 : Nat) (gC enW l)))) ∧
       ((Plain (ow2 g (0 : Nat))) ∧
       (∀ (y : Unit), ((True) →
       ((((True ∧ (((0 : Nat) + List.length g * (3 : Nat) ≤ List.length (ow2 g (List.length g)) ∧ Plain (List.take (List.length g * (3 : Nat)) (List.drop (0 : Nat) (ow2 g (List.length g))))) ∧ True)) ∧ (((True ∧ (True ∧ (True ∧ True))) ∧ (True ∧ ((True ∧ (True ∧ (True ∧ True))) ∧ (Plain [] ∧ True)))) ∧ ((Plain (buC (Row.mk (List.take (List.length g * (3 : Nat)) (List.drop (0 : Nat) (ow2 g (List.length g)))) true (Ob.cells true)) (Row.mk [] false (Ob.cells true)) (0 : Nat) (4096 : Int) false (0 : Int)) ∧ (Plain (bkB (Row.mk (List.take (List.length g * (3 : Nat)) (List.drop (0 : Nat) (ow2 g (List.length g)))) true (Ob.cells true)) (Row.mk [] false (Ob.cells true)) (0 : Nat) (4096 : Int) false (0 : Int)) ∧ True)) ∧ (IsW (Row.mk (List.take (List.length g * (3 : Nat)) (List.drop (0 : Nat) (ow2 g (List.length g)))) true (Ob.cells true)) (List.length g) ∧ (IsTk (Row.mk [] false (Ob.cells true)) (0 : Nat) (0 : Int) (4096 : Int) ∧ ((0 : Int) ≤ (0 : Int) ∧ (0 : Int) ≤ (65536 : Int)))))))) ∧
       ((Value.pointer (some (Addr.mk (2 : Nat) (0 : Nat) none)) = Value.pointer (some (Addr.mk (2 : Nat) (0 : Nat) none))) ∧
       ((Value.pointer (some (Addr.mk (2 : Nat) (0 : Nat) none)) = Value.pointer (some (Addr.mk (2 : Nat) (0 : Nat) none))) ∧
       ((Value.pointer (some (Addr.mk (2 : Nat) (0 : Nat) none)) = Value.pointer (some (Addr.mk (2 : Nat) (0 : Nat) none))) ∧
       ((Value.pointer (some (Addr.mk (2 : Nat) (0 : Nat) none)) = Value.pointer (some (Addr.mk (2 : Nat) (0 : Nat) none))) ∧
       ((Value.pointer (some (Addr.mk (2 : Nat) (0 : Nat) none)) = Value.pointer (some (Addr.mk (2 : Nat) (0 : Nat) none))) ∧
       ((Value.pointer (some (Addr.mk (2 : Nat) (0 : Nat) none)) = Value.pointer (some (Addr.mk (2 : Nat) (0 : Nat) none))) ∧
       ((((True ∧ (((0 : Nat) + List.length g * (3 : Nat) ≤ List.length (ow2 g (List.length g)) ∧ Plain (List.take (List.length g * (3 : Nat)) (List.drop (0 : Nat) (ow2 g (List.length g))))) ∧ True)) ∧ (((True ∧ (True ∧ (True ∧ True))) ∧ (True ∧ ((True ∧ (True ∧ (True ∧ True))) ∧ (Plain (buC (Row.mk (List.take (List.length g * (3 : Nat)) (List.drop (0 : Nat) (ow2 g (List.length g)))) true (Ob.cells true)) (Row.mk [] false (Ob.cells true)) (0 : Nat) (4096 : Int) false (0 : Int)) ∧ True)))) ∧ ((Plain (buC (Row.mk (List.take (List.length g * (3 : Nat)) (List.drop (0 : Nat) (ow2 g (List.length g)))) true (Ob.cells true)) (Row.mk (buC (Row.mk (List.take (List.length g * (3 : Nat)) (List.drop (0 : Nat) (ow2 g (List.length g)))) true (Ob.cells true)) (Row.mk [] false (Ob.cells true)) (0 : Nat) (4096 : Int) false (0 : Int)) false (Ob.cells true)) (buN (Row.mk (List.take (List.length g * (3 : Nat)) (List.drop (0 : Nat) (ow2 g (List.length g)))) true (Ob.cells true)) (Row.mk [] false (Ob.cells true)) (0 : Nat) (4096 : Int) false (0 : Int)) (4096 : Int) false (0 : Int)) ∧ (Plain (bkB (Row.mk (List.take (List.length g * (3 : Nat)) (List.drop (0 : Nat) (ow2 g (List.length g)))) true (Ob.cells true)) (Row.mk (buC (Row.mk (List.take (List.length g * (3 : Nat)) (List.drop (0 : Nat) (ow2 g (List.length g)))) true (Ob.cells true)) (Row.mk [] false (Ob.cells true)) (0 : Nat) (4096 : Int) false (0 : Int)) false (Ob.cells true)) (buN (Row.mk (List.take (List.length g * (3 : Nat)) (List.drop (0 : Nat) (ow2 g (List.length g)))) true (Ob.cells true)) (Row.mk [] false (Ob.cells true)) (0 : Nat) (4096 : Int) false (0 : Int)) (4096 : Int) false (0 : Int)) ∧ True)) ∧ (IsW (Row.mk (List.take (List.length g * (3 : Nat)) (List.drop (0 : Nat) (ow2 g (List.length g)))) true (Ob.cells true)) (List.length g) ∧ (IsTk (Row.mk (buC (Row.mk (List.take (List.length g * (3 : Nat)) (List.drop (0 : Nat) (ow2 g (List.length g)))) true (Ob.cells true)) (Row.mk [] false (Ob.cells true)) (0 : Nat) (4096 : Int) false (0 : Int)) false (Ob.cells true)) (buN (Row.mk (List.take (List.length g * (3 : Nat)) (List.drop (0 : Nat) (ow2 g (List.length g)))) true (Ob.cells true)) (Row.mk [] false (Ob.cells true)) (0 : Nat) (4096 : Int) false (0 : Int)) (buS (Row.mk (List.take (List.length g * (3 : Nat)) (List.drop (0 : Nat) (ow2 g (List.length g)))) true (Ob.cells true)) (Row.mk [] false (Ob.cells true)) (0 : Nat) (4096 : Int) false (0 : Int)) (4096 : Int) ∧ ((0 : Int) ≤ (0 : Int) ∧ (0 : Int) ≤ (65536 : Int)))))))) ∧
       (br (Int.ofNat (buN (Row.mk (List.take (List.length g * (3 : Nat)) (List.drop (0 : Nat) (ow2 g (List.length g)))) true (Ob.cells true)) (Row.mk [] false (Ob.cells true)) (0 : Nat) (4096 : Int) false (0 : Int)) == (0 : Int))
        (br (buS (Row.mk (List.take (List.length g * (3 : Nat)) (List.drop (0 : Nat) (ow2 g (List.length g)))) true (Ob.cells true)) (Row.mk [] false (Ob.cells true)) (0 : Nat) (4096 : Int) false (0 : Int) == (0 : Int))
         ((((((0 : Nat) + bkN (Row.mk (List.take (List.length g * (3 : Nat)) (List.drop (0 : Nat) (ow2 g (List.length g)))) true (Ob.cells true)) (Row.mk [] false (Ob.cells true)) (0 : Nat) (4096 : Int) false (0 : Int) * (1 : Nat) ≤ List.length (bkB (Row.mk (List.take (List.length g * (3 : Nat)) (List.drop (0 : Nat) (ow2 g (List.length g)))) true (Ob.cells true)) (Row.mk [] false (Ob.cells true)) (0 : Nat) (4096 : Int) false (0 : Int)) ∧ Plain (List.take (bkN (Row.mk (List.take (List.length g * (3 : Nat)) (List.drop (0 : Nat) (ow2 g (List.length g)))) true (Ob.cells true)) (Row.mk [] false (Ob.cells true)) (0 : Nat) (4096 : Int) false (0 : Int) * (1 : Nat)) (List.drop (0 : Nat) (bkB (Row.mk (List.take (List.length g * (3 : Nat)) (List.drop (0 : Nat) (ow2 g (List.length g)))) true (Ob.cells true)) (Row.mk [] false (Ob.cells true)) (0 : Nat) (4096 : Int) false (0 : Int))))) ∧ (((0 : Nat) + bkN (Row.mk (List.take (List.length g * (3 : Nat)) (List.drop (0 : Nat) (ow2 g (List.length g)))) true (Ob.cells true)) (Row.mk (buC (Row.mk (List.take (List.length g * (3 : Nat)) (List.drop (0 : Nat) (ow2 g (List.length g)))) true (Ob.cells true)) (Row.mk [] false (Ob.cells true)) (0 : Nat) (4096 : Int) false (0 : Int)) false (Ob.cells true)) (buN (Row.mk (List.take (List.length g * (3 : Nat)) (List.drop (0 : Nat) (ow2 g (List.length g)))) true (Ob.cells true)) (Row.mk [] false (Ob.cells true)) (0 : Nat) (4096 : Int) false (0 : Int)) (4096 : Int) false (0 : Int) * (1 : Nat) ≤ List.length (bkB (Row.mk (List.take (List.length g * (3 : Nat)) (List.drop (0 : Nat) (ow2 g (List.length g)))) true (Ob.cells true)) (Row.mk (buC (Row.mk (List.take (List.length g * (3 : Nat)) (List.drop (0 : Nat) (ow2 g (List.length g)))) true (Ob.cells true)) (Row.mk [] false (Ob.cells true)) (0 : Nat) (4096 : Int) false (0 : Int)) false (Ob.cells true)) (buN (Row.mk (List.take (List.length g * (3 : Nat)) (List.drop (0 : Nat) (ow2 g (List.length g)))) true (Ob.cells true)) (Row.mk [] false (Ob.cells true)) (0 : Nat) (4096 : Int) false (0 : Int)) (4096 : Int) false (0 : Int)) ∧ Plain (List.take (bkN (Row.mk (List.take (List.length g * (3 : Nat)) (List.drop (0 : Nat) (ow2 g (List.length g)))) true (Ob.cells true)) (Row.mk (buC (Row.mk (List.take (List.length g * (3 : Nat)) (List.drop (0 : Nat) (ow2 g (List.length g)))) true (Ob.cells true)) (Row.mk [] false (Ob.cells true)) (0 : Nat) (4096 : Int) false (0 : Int)) false (Ob.cells true)) (buN (Row.mk (List.take (List.length g * (3 : Nat)) (List.drop (0 : Nat) (ow2 g (List.length g)))) true (Ob.cells true)) (Row.mk [] false (Ob.cells true)) (0 : Nat) (4096 : Int) false (0 : Int)) (4096 : Int) false (0 : Int) * (1 : Nat)) (List.drop (0 : Nat) (bkB (Row.mk (List.take (List.length g * (3 : Nat)) (List.drop (0 : Nat) (ow2 g (List.length g)))) true (Ob.cells true)) (Row.mk (buC (Row.mk (List.take (List.length g * (3 : Nat)) (List.drop (0 : Nat) (ow2 g (List.length g)))) true (Ob.cells true)) (Row.mk [] false (Ob.cells true)) (0 : Nat) (4096 : Int) false (0 : Int)) false (Ob.cells true)) (buN (Row.mk (List.take (List.length g * (3 : Nat)) (List.drop (0 : Nat) (ow2 g (List.length g)))) true (Ob.cells true)) (Row.mk [] false (Ob.cells true)) (0 : Nat) (4096 : Int) false (0 : Int)) (4096 : Int) false (0 : Int))))) ∧ True)) ∧ ((True ∧ (True ∧ True)) ∧ (True ∧ (IsB (Row.mk (List.take (bkN (Row.mk (List.take (List.length g * (3 : Nat)) (List.drop (0 : Nat) (ow2 g (List.length g)))) true (Ob.cells true)) (Row.mk [] false (Ob.cells true)) (0 : Nat) (4096 : Int) false (0 : Int) * (1 : Nat)) (List.drop (0 : Nat) (bkB (Row.mk (List.take (List.length g * (3 : Nat)) (List.drop (0 : Nat) (ow2 g (List.length g)))) true (Ob.cells true)) (Row.mk [] false (Ob.cells true)) (0 : Nat) (4096 : Int) false (0 : Int)))) true (Ob.cells true)) (bkN (Row.mk (List.take (List.length g * (3 : Nat)) (List.drop (0 : Nat) (ow2 g (List.length g)))) true (Ob.cells true)) (Row.mk [] false (Ob.cells true)) (0 : Nat) (4096 : Int) false (0 : Int)) ∧ (IsB (Row.mk (List.take (bkN (Row.mk (List.take (List.length g * (3 : Nat)) (List.drop (0 : Nat) (ow2 g (List.length g)))) true (Ob.cells true)) (Row.mk (buC (Row.mk (List.take (List.length g * (3 : Nat)) (List.drop (0 : Nat) (ow2 g (List.length g)))) true (Ob.cells true)) (Row.mk [] false (Ob.cells true)) (0 : Nat) (4096 : Int) false (0 : Int)) false (Ob.cells true)) (buN (Row.mk (List.take (List.length g * (3 : Nat)) (List.drop (0 : Nat) (ow2 g (List.length g)))) true (Ob.cells true)) (Row.mk [] false (Ob.cells true)) (0 : Nat) (4096 : Int) false (0 : Int)) (4096 : Int) false (0 : Int) * (1 : Nat)) (List.drop (0 : Nat) (bkB (Row.mk (List.take (List.length g * (3 : Nat)) (List.drop (0 : Nat) (ow2 g (List.length g)))) true (Ob.cells true)) (Row.mk (buC (Row.mk (List.take (List.length g * (3 : Nat)) (List.drop (0 : Nat) (ow2 g (List.length g)))) true (Ob.cells true)) (Row.mk [] false (Ob.cells true)) (0 : Nat) (4096 : Int) false (0 : Int)) false (Ob.cells true)) (buN (Row.mk (List.take (List.length g * (3 : Nat)) (List.drop (0 : Nat) (ow2 g (List.length g)))) true (Ob.cells true)) (Row.mk [] false (Ob.cells true)) (0 : Nat) (4096 : Int) false (0 : Int)) (4096 : Int) false (0 : Int)))) true (Ob.cells true)) (bkN (Row.mk (List.take (List.length g * (3 : Nat)) (List.drop (0 : Nat) (ow2 g (List.length g)))) true (Ob.cells true)) (Row.mk (buC (Row.mk (List.take (List.length g * (3 : Nat)) (List.drop (0 : Nat) (ow2 g (List.length g)))) true (Ob.cells true)) (Row.mk [] false (Ob.cells true)) (0 : Nat) (4096 : Int) false (0 : Int)) false (Ob.cells true)) (buN (Row.mk (List.take (List.length g * (3 : Nat)) (List.drop (0 : Nat) (ow2 g (List.length g)))) true (Ob.cells true)) (Row.mk [] false (Ob.cells true)) (0 : Nat) (4096 : Int) false (0 : Int)) (4096 : Int) false (0 : Int)) ∧ bkN (Row.mk (List.take (List.length g * (3 : Nat)) (List.drop (0 : Nat) (ow2 g (List.length g)))) true (Ob.cells true)) (Row.mk [] false (Ob.cells true)) (0 : Nat) (4096 : Int) false (0 : Int) ≤ (9223372036854775807 : Nat))))))) ∧
         (br (decide (dB (Row.mk (List.take (bkN (Row.mk (List.take (List.length g * (3 : Nat)) (List.drop (0 : Nat) (ow2 g (List.length g)))) true (Ob.cells true)) (Row.mk [] false (Ob.cells true)) (0 : Nat) (4096 : Int) false (0 : Int) * (1 : Nat)) (List.drop (0 : Nat) (bkB (Row.mk (List.take (List.length g * (3 : Nat)) (List.drop (0 : Nat) (ow2 g (List.length g)))) true (Ob.cells true)) (Row.mk [] false (Ob.cells true)) (0 : Nat) (4096 : Int) false (0 : Int)))) true (Ob.cells true)) = dB (Row.mk (List.take (bkN (Row.mk (List.take (List.length g * (3 : Nat)) (List.drop (0 : Nat) (ow2 g (List.length g)))) true (Ob.cells true)) (Row.mk (buC (Row.mk (List.take (List.length g * (3 : Nat)) (List.drop (0 : Nat) (ow2 g (List.length g)))) true (Ob.cells true)) (Row.mk [] false (Ob.cells true)) (0 : Nat) (4096 : Int) false (0 : Int)) false (Ob.cells true)) (buN (Row.mk (List.take (List.length g * (3 : Nat)) (List.drop (0 : Nat) (ow2 g (List.length g)))) true (Ob.cells true)) (Row.mk [] false (Ob.cells true)) (0 : Nat) (4096 : Int) false (0 : Int)) (4096 : Int) false (0 : Int) * (1 : Nat)) (List.drop (0 : Nat) (bkB (Row.mk (List.take (List.length g * (3 : Nat)) (List.drop (0 : Nat) (ow2 g (List.length g)))) true (Ob.cells true)) (Row.mk (buC (Row.mk (List.take (List.length g * (3 : Nat)) (List.drop (0 : Nat) (ow2 g (List.length g)))) true (Ob.cells true)) (Row.mk [] false (Ob.cells true)) (0 : Nat) (4096 : Int) false (0 : Int)) false (Ob.cells true)) (buN (Row.mk (List.take (List.length g * (3 : Nat)) (List.drop (0 : Nat) (ow2 g (List.length g)))) true (Ob.cells true)) (Row.mk [] false (Ob.cells true)) (0 : Nat) (4096 : Int) false (0 : Int)) (4096 : Int) false (0 : Int)))) true (Ob.cells true))))
          (((True ∧ (True ∧ (True ∧ True)))) ∧
          ((true = true) ∧
          ((Eq (α := List Value) (gC enW l) (gC enW g)) ∧
          ((Plain (gC enW l)) ∧
          True))))
          ((true = false) ∧
          ((Eq (α := List Value) (gC enW l) (gC enW g)) ∧
          ((Plain (gC enW l)) ∧
          True)))))
         ((true = false) ∧
         ((Eq (α := List Value) (gC enW l) (gC enW g)) ∧
         ((Plain (gC enW l)) ∧
         True))))
        ((true = false) ∧
        ((Eq (α := List Value) (gC enW l) (gC enW g)) ∧
        ((Plain (gC enW l)) ∧
        True)))))))))))))))))))))))))))))))))
       False)
      False)
     False)))) := by kernel_rfl
theorem Ph_vc (l : List Wr) : mcall EtPB mPh 60 6 [.slice (some ⟨0, 0, none⟩) l.length 3] ⟨mkR (nums 0 [gRo enW l]), 1⟩ (retIs 1 (.bool true) [gRo enW l]) =
  (br (decide (Int.ofNat (List.length l) > (20 : Int)))
   (((True ∧ (True ∧ (True ∧ True)))) ∧
   ((true = true) ∧
   ((Eq (α := List Value) (gC enW l) (gC enW l)) ∧
   ((Plain (gC enW l)) ∧
   True))))
   ((((((0 : Nat) + List.length l * (3 : Nat) ≤ List.length (gC enW l) ∧ Plain (List.take (List.length l * (3 : Nat)) (List.drop (0 : Nat) (gC enW l)))) ∧ True) ∧ ((True ∧ True) ∧ (True ∧ IsWo (Row.mk (List.take (List.length l * (3 : Nat)) (List.drop (0 : Nat) (gC enW l))) true (Ob.cells true)) (List.length l))))) ∧
   (br (!ltR (Row.mk (List.take (List.length l * (3 : Nat)) (List.drop (0 : Nat) (gC enW l))) true (Ob.cells true)))
    (((True ∧ (True ∧ (True ∧ True)))) ∧
    ((true = true) ∧
    ((Eq (α := List Value) (gC enW l) (gC enW l)) ∧
    ((Plain (gC enW l)) ∧
    True))))
    (br (decide ((0 : Nat) + List.length l * (3 : Nat) ≤ List.length (gC enW l)))
     (br (allOne (List.take (List.length l * (3 : Nat)) (List.drop (0 : Nat) (gC enW l))))
      (br (decide ((0 : Nat) + List.length l ≤ (16777216 : Nat)))
       (∃ g : List Wr, ((List.length g ≤ (20 : Nat)) ∧
       (((0 : Nat) = (0 : Nat)) ∧
       ((List.length g = List.length l) ∧
       (((0 : Nat) = (0 : Nat)) ∧
       (((0 : Nat) = (0 : Nat)) ∧
       ((List.length g = (0 : Nat) + List.length l) ∧
       (((0 : Int) = (0 : Int)) ∧
       ((Eq (α := List Value) (gC enW g) (gC enW l)) ∧
       ((Plain (gC enW g)) ∧
       (((0 : Nat) = (0 : Nat)) ∧
       ((false = false) ∧
       (((0 : Int) = (0 : Int)) ∧
       (((0 : Nat) = (0 : Nat)) ∧
       (((0 : Int) = (0 : Int)) ∧
       (((65536 : Int) = (65536 : Int)) ∧
       ((Eq (α := List Value) ([]) ([])) ∧
       ((Eq (α := List Value) (ow1 g (0 : Nat)) ([] ++ List.take (List.length l * (3 : Nat)) (List.drop (0 : Nat) (gC enW l)))) ∧
       ((Plain (ow1 g (0 : Nat))) ∧
       (∀ (y : Unit), ((True) →
       ((((True ∧ (((0 : Nat) + List.length g * (3 : Nat) ≤ List.length (ow1 g (List.length g)) ∧ Plain (List.take (List.length g * (3 : Nat)) (List.drop (0 : Nat) (ow1 g (List.length g))))) ∧ True)) ∧ (((True ∧ (True ∧ (True ∧ True))) ∧ (True ∧ ((True ∧ (True ∧ (True ∧ True))) ∧ (Plain [] ∧ True)))) ∧ ((Plain (buC (Row.mk (List.take (List.length g * (3 : Nat)) (List.drop (0 : Nat) (ow1 g (List.length g)))) true (Ob.cells true)) (Row.mk [] false (Ob.cells true)) (0 : Nat) (65536 : Int) false (0 : Int)) ∧ (Plain (bkB (Row.mk (List.take (List.length g * (3 : Nat)) (List.drop (0 : Nat) (ow1 g (List.length g)))) true (Ob.cells true)) (Row.mk [] false (Ob.cells true)) (0 : Nat) (65536 : Int) false (0 : Int)) ∧ True)) ∧ (IsW (Row.mk (List.take (List.length g * (3 : Nat)) (List.drop (0 : Nat) (ow1 g (List.length g)))) true (Ob.cells true)) (List.length g) ∧ (IsTk (Row.mk [] false (Ob.cells true)) (0 : Nat) (0 : Int) (65536 : Int) ∧ ((0 : Int) ≤ (0 : Int) ∧ (0 : Int) ≤ (65536 : Int)))))))) ∧
       ((((True ∧ (((0 : Nat) + List.length g * (3 : Nat) ≤ List.length (ow1 g (List.length g)) ∧ Plain (List.take (List.length g * (3 : Nat)) (List.drop (0 : Nat) (ow1 g (List.length g))))) ∧ True)) ∧ (((True ∧ (True ∧ (True ∧ True))) ∧ (True ∧ ((True ∧ (True ∧ (True ∧ True))) ∧ (Plain (buC (Row.mk (List.take (List.length g * (3 : Nat)) (List.drop (0 : Nat) (ow1 g (List.length g)))) true (Ob.cells true)) (Row.mk [] false (Ob.cells true)) (0 : Nat) (65536 : Int) false (0 : Int)) ∧ True)))) ∧ ((Plain (buC (Row.mk (List.take (List.length g * (3 : Nat)) (List.drop (0 : Nat) (ow1 g (List.length g)))) true (Ob.cells true)) (Row.mk (buC (Row.mk (List.take (List.length g * (3 : Nat)) (List.drop (0 : Nat) (ow1 g (List.length g)))) true (Ob.cells true)) (Row.mk [] false (Ob.cells true)) (0 : Nat) (65536 : Int) false (0 : Int)) false (Ob.cells true)) (buN (Row.mk (List.take (List.length g * (3 : Nat)) (List.drop (0 : Nat) (ow1 g (List.length g)))) true (Ob.cells true)) (Row.mk [] false (Ob.cells true)) (0 : Nat) (65536 : Int) false (0 : Int)) (65536 : Int) false (0 : Int)) ∧ (Plain (bkB (Row.mk (List.take (List.length g * (3 : Nat)) (List.drop (0 : Nat) (ow1 g (List.length g)))) true (Ob.cells true)) (Row.mk (buC (Row.mk (List.take (List.length g * (3 : Nat)) (List.drop (0 : Nat) (ow1 g (List.length g)))) true (Ob.cells true)) (Row.mk [] false (Ob.cells true)) (0 : Nat) (65536 : Int) false (0 : Int)) false (Ob.cells true)) (buN (Row.mk (List.take (List.length g * (3 : Nat)) (List.drop (0 : Nat) (ow1 g (List.length g)))) true (Ob.cells true)) (Row.mk [] false (Ob.cells true)) (0 : Nat) (65536 : Int) false (0 : Int)) (65536 : Int) false (0 : Int)) ∧ True)) ∧ (IsW (Row.mk (List.take (List.length g * (3 : Nat)) (List.drop (0 : Nat) (ow1 g (List.length g)))) true (Ob.cells true)) (List.length g) ∧ (IsTk (Row.mk (buC (Row.mk (List.take (List.length g * (3 : Nat)) (List.drop (0 : Nat) (ow1 g (List.length g)))) true (Ob.cells true)) (Row.mk [] false (Ob.cells true)) (0 : Nat) (65536 : Int) false (0 : Int)) false (Ob.cells true)) (buN (Row.mk (List.take (List.length g * (3 : Nat)) (List.drop (0 : Nat) (ow1 g (List.length g)))) true (Ob.cells true)) (Row.mk [] false (Ob.cells true)) (0 : Nat) (65536 : Int) false (0 : Int)) (buS (Row.mk (List.take (List.length g * (3 : Nat)) (List.drop (0 : Nat) (ow1 g (List.length g)))) true (Ob.cells true)) (Row.mk [] false (Ob.cells true)) (0 : Nat) (65536 : Int) false (0 : Int)) (65536 : Int) ∧ ((0 : Int) ≤ (0 : Int) ∧ (0 : Int) ≤ (65536 : Int)))))))) ∧
       (br (decide (Int.ofNat (bkN (Row.mk (List.take (List.length g * (3 : Nat)) (List.drop (0 : Nat) (ow1 g (List.length g)))) true (Ob.cells true)) (Row.mk (buC (Row.mk (List.take (List.length g * (3 : Nat)) (List.drop (0 : Nat) (ow1 g (List.length g)))) true (Ob.cells true)) (Row.mk [] false (Ob.cells true)) (0 : Nat) (65536 : Int) false (0 : Int)) false (Ob.cells true)) (buN (Row.mk (List.take (List.length g * (3 : Nat)) (List.drop (0 : Nat) (ow1 g (List.length g)))) true (Ob.cells true)) (Row.mk [] false (Ob.cells true)) (0 : Nat) (65536 : Int) false (0 : Int)) (65536 : Int) false (0 : Int)) ≤ IntKind.wrap IntKind.i64 ((2 : Int) * Int.ofNat (List.length g))))
        (br (Int.ofNat (List.length g) == (0 : Int))
         (((True ∧ (True ∧ (True ∧ True)))) ∧
         ((true = true) ∧
         ((Eq (α := List Value) (gC enW l) (gC enW g)) ∧
         ((Plain (gC enW l)) ∧
         True))))
         (br (decide (Int.ofNat (bkN (Row.mk (List.take (List.length g * (3 : Nat)) (List.drop (0 : Nat) (ow1 g (List.length g)))) true (Ob.cells true)) (Row.mk (buC (Row.mk (List.take (List.length g * (3 : Nat)) (List.drop (0 : Nat) (ow1 g (List.length g)))) true (Ob.cells true)) (Row.mk [] false (Ob.cells true)) (0 : Nat) (65536 : Int) false (0 : Int)) false (Ob.cells true)) (buN (Row.mk (List.take (List.length g * (3 : Nat)) (List.drop (0 : Nat) (ow1 g (List.length g)))) true (Ob.cells true)) (Row.mk [] false (Ob.cells true)) (0 : Nat) (65536 : Int) false (0 : Int)) (65536 : Int) false (0 : Int)) ≥ Int.ofNat (List.length g)))
          (((True ∧ (True ∧ (True ∧ True)))) ∧
          ((true = true) ∧
          ((Eq (α := List Value) (gC enW l) (gC enW g)) ∧
          ((Plain (gC enW l)) ∧
          True))))
          ((true = false) ∧
          ((Eq (α := List Value) (gC enW l) (gC enW g)) ∧
          ((Plain (gC enW l)) ∧
          True)))))
        ((true = false) ∧
        ((Eq (α := List Value) (gC enW l) (gC enW g)) ∧
        ((Plain (gC enW l)) ∧
        True)))))))))))))))))))))))))))
       False)
      False)
     False)))) := by kernel_rfl
theorem Pb_round (l : List Wr) (i : Nat) (Inv : Nat → Prop) (m : Nat → Nat) : mev EtPB noM 60 8 (0 :: pPb) false (codeOf Try.prog 8 (0 :: pPb)) ⟨mkOv (slPb l i), 44, []⟩ none ⟨mkR (rlPb l), 4⟩ (roundK 1 4 44 Inv m (slPb l) (fun _ => rlPb l) (wsPb l) i) =
  (br (decide ((↑i : Int) < Int.ofNat (List.length l)))
   (br (decide ((0 : Int) ≤ (↑i : Int) ∧ (↑i : Int) < (↑(List.length l) : Int)))
    ((Eq (α := Option Value) ((gC enW l)[(0 : Nat) + Int.toNat (↑i : Int) * (3 : Nat) + (0 : Nat)]?) (some (Value.string (cellS (gC enW l) ((0 : Nat) + Int.toNat (↑i : Int) * (3 : Nat) + (0 : Nat)))))) ∧
    ((Eq (α := Option Value) ((gC enW l)[(0 : Nat) + Int.toNat (↑i : Int) * (3 : Nat) + (0 : Nat) + (1 : Nat)]?) (some (Value.string (cellS (gC enW l) ((0 : Nat) + Int.toNat (↑i : Int) * (3 : Nat) + (0 : Nat) + (1 : Nat)))))) ∧
    (((((True ∧ (True ∧ True)) ∧ True) ∧ (True ∧ (True ∧ fbZ (cellS (gC enW l) ((0 : Nat) + Int.toNat (↑i : Int) * (3 : Nat) + (0 : Nat))) (cellS (gC enW l) ((0 : Nat) + Int.toNat (↑i : Int) * (3 : Nat) + (0 : Nat) + (1 : Nat))) ≤ (1000000000 : Nat))))) ∧
    (∃ j : Nat, ((Inv j) ∧
    ((m j < m i) ∧
    (((0 : Nat) = (0 : Nat)) ∧
    ((List.length l = List.length l) ∧
    (((0 : Nat) = (0 : Nat)) ∧
    (((↑(wsZ0 l j) : Int) = IntKind.wrap IntKind.i64 ((↑(wsZ0 l i) : Int) + (↑(fbZ (cellS (gC enW l) ((0 : Nat) + Int.toNat (↑i : Int) * (3 : Nat) + (0 : Nat))) (cellS (gC enW l) ((0 : Nat) + Int.toNat (↑i : Int) * (3 : Nat) + (0 : Nat) + (1 : Nat)))) : Int))) ∧
    (((↑j : Int) = IntKind.wrap IntKind.i64 ((↑i : Int) + (1 : Int))) ∧
    ((Eq (α := List Value) (gC enW l) (gC enW l)) ∧
    ((Plain (gC enW l)) ∧
    (((0 : Nat) = (0 : Nat)) ∧
    ((false = false) ∧
    (((0 : Int) = (0 : Int)) ∧
    (((0 : Nat) = (0 : Nat)) ∧
    (((0 : Nat) = (0 : Nat)) ∧
    (((0 : Int) = (0 : Int)) ∧
    (((4096 : Int) = (4096 : Int)) ∧
    ((Eq (α := List Value) ([]) ([])) ∧
    ((Plain []) ∧
    True))))))))))))))))))))))
    False)
   (∃ y : Unit, ((True) ∧
   (((0 : Nat) = (0 : Nat)) ∧
   ((List.length l = List.length l) ∧
   (((0 : Nat) = (0 : Nat)) ∧
   (((↑(wsZ0 l (List.length l)) : Int) = (↑(wsZ0 l i) : Int)) ∧
   ((Eq (α := List Value) (gC enW l) (gC enW l)) ∧
   ((Plain (gC enW l)) ∧
   (((0 : Nat) = (0 : Nat)) ∧
   ((false = false) ∧
   (((0 : Int) = (0 : Int)) ∧
   (((0 : Nat) = (0 : Nat)) ∧
   (((0 : Nat) = (0 : Nat)) ∧
   (((0 : Int) = (0 : Int)) ∧
   (((4096 : Int) = (4096 : Int)) ∧
   ((Eq (α := List Value) ([]) ([])) ∧
   ((Plain []) ∧
   True)))))))))))))))))) := by kernel_rfl
theorem Pb_vc (l : List Wr) : mcall EtPB mPb 60 8 [.slice (some ⟨0, 0, none⟩) l.length 3] ⟨mkR (nums 0 [gRo enW l]), 1⟩ (retIs 1 (.bool true) [gRo enW l]) =
  ((((((0 : Nat) + List.length l * (3 : Nat) ≤ List.length (gC enW l) ∧ Plain (List.take (List.length l * (3 : Nat)) (List.drop (0 : Nat) (gC enW l)))) ∧ True) ∧ ((True ∧ True) ∧ (True ∧ IsWo (Row.mk (List.take (List.length l * (3 : Nat)) (List.drop (0 : Nat) (gC enW l))) true (Ob.cells true)) (List.length l))))) ∧
  (br (!ltR (Row.mk (List.take (List.length l * (3 : Nat)) (List.drop (0 : Nat) (gC enW l))) true (Ob.cells true)))
   (((True ∧ (True ∧ (True ∧ True)))) ∧
   ((true = true) ∧
   ((Eq (α := List Value) (gC enW l) (gC enW l)) ∧
   ((Plain (gC enW l)) ∧
   True))))
   (∃ g : List Wr, ((wSum g ≤ (3000 : Nat)) ∧
   (((0 : Nat) = (0 : Nat)) ∧
   ((List.length g = List.length l) ∧
   (((0 : Nat) = (0 : Nat)) ∧
   (((↑(wsZ0 g (0 : Nat)) : Int) = (0 : Int)) ∧
   (((0 : Int) = (0 : Int)) ∧
   ((Eq (α := List Value) (gC enW g) (gC enW l)) ∧
   ((Plain (gC enW g)) ∧
   (((0 : Nat) = (0 : Nat)) ∧
   ((false = false) ∧
   (((0 : Int) = (0 : Int)) ∧
   (((0 : Nat) = (0 : Nat)) ∧
   (((0 : Int) = (0 : Int)) ∧
   (((4096 : Int) = (4096 : Int)) ∧
   ((Eq (α := List Value) ([]) ([])) ∧
   (∀ (y : Unit), ((True) →
   ((((True ∧ (((0 : Nat) + List.length g * (3 : Nat) ≤ List.length (gC enW g) ∧ Plain (List.take (List.length g * (3 : Nat)) (List.drop (0 : Nat) (gC enW g)))) ∧ True)) ∧ (((True ∧ (True ∧ (True ∧ True))) ∧ (True ∧ ((True ∧ (True ∧ (True ∧ True))) ∧ (Plain [] ∧ True)))) ∧ ((Plain (buC (Row.mk (List.take (List.length g * (3 : Nat)) (List.drop (0 : Nat) (gC enW g))) true (Ob.cells true)) (Row.mk [] false (Ob.cells true)) (0 : Nat) (4096 : Int) false (0 : Int)) ∧ (Plain (bkB (Row.mk (List.take (List.length g * (3 : Nat)) (List.drop (0 : Nat) (gC enW g))) true (Ob.cells true)) (Row.mk [] false (Ob.cells true)) (0 : Nat) (4096 : Int) false (0 : Int)) ∧ True)) ∧ (IsW (Row.mk (List.take (List.length g * (3 : Nat)) (List.drop (0 : Nat) (gC enW g))) true (Ob.cells true)) (List.length g) ∧ (IsTk (Row.mk [] false (Ob.cells true)) (0 : Nat) (0 : Int) (4096 : Int) ∧ ((0 : Int) ≤ (0 : Int) ∧ (0 : Int) ≤ (65536 : Int)))))))) ∧
   (br (decide (Int.ofNat (bkN (Row.mk (List.take (List.length g * (3 : Nat)) (List.drop (0 : Nat) (gC enW g))) true (Ob.cells true)) (Row.mk [] false (Ob.cells true)) (0 : Nat) (4096 : Int) false (0 : Int)) ≤ (↑(wsZ0 g (List.length g)) : Int)))
    (((True ∧ (True ∧ (True ∧ True)))) ∧
    ((true = true) ∧
    ((Eq (α := List Value) (gC enW l) (gC enW g)) ∧
    ((Plain (gC enW l)) ∧
    True))))
    ((true = false) ∧
    ((Eq (α := List Value) (gC enW l) (gC enW g)) ∧
    ((Plain (gC enW l)) ∧
    True))))))))))))))))))))))))) := by kernel_rfl
theorem tPB_ok : ∀ x ∈ tPB, EntOk Try.prog x := all_cons eLi_ok (all_cons eRunsP_ok (all_cons eSameB_ok (all_cons eFbE_ok (all_cons eBlk_ok (all_nil)))))
theorem pl_nil : Plain [] := fun v hv => by simp at hv
theorem Pb_piece : PieceOk EtPB 1 (8, pPb, specPb) := by
  refine piece_loop tk.mixed (calls_envT tPB_ok) (lok_envT _ _) lm_none (n := 60) (by kernel_rfl) (fun _ : List Wr => 0) (fun l i => i ≤ l.length) (fun l i => l.length - i) (sl := slPb) (rl := fun l _ => rlPb l) (fun l hg => Nat.zero_le _) (fun l i hg hi => ?_)
  refine (Pb_round l i _ _).mpr ?_
  simp only [ofNat_eq, toNat_cast, Nat.zero_add, Nat.add_zero, Nat.mul_one, List.drop_zero, bCells_len, bCells_drop, bCells_take, bCells_app, bCells_one, bCells_plain, List.length_replicate, List.length_append, List.length_take, List.length_drop, List.take_length, and_true, true_and, and_self, decide_true, List.length_nil, List.length_cons, Nat.sub_zero, dB_mk, dB_ro, List.take_zero, z_wsZ0, wPl]
  have hl := ok_wlen l
  refine br_if (fun h => br_dec (by omega) ?_) (fun h => ⟨(), ?_⟩)
  · have hi' : i < l.length := by omega
    obtain ⟨c0, c1, c2, d0, d1, d2⟩ := wGet l i hi'
    have hs := wSum_take l i hi'
    have hle := wSum_tle l (i + 1)
    have hz : fbZ (bs l[i].f.n) (bs l[i].f.v) = fbN l[i].f := by rw [z_fbZ]; rfl
    have w1 : IntKind.i64.wrap ((i : Int) + 1) = ((i + 1 : Nat) : Int) := by rw [wr64_id (by unfold I64; omega)]; omega
    rw [d0, d1, hz, w1, wr64_id (by unfold I64; omega)]
    exact ⟨c0, c1, by omega, i + 1, by omega, by omega, by omega, rfl, pl_nil⟩
  · rw [show i = l.length by omega, List.take_length]; exact ⟨rfl, pl_nil⟩
theorem wTake (l : List Wr) : (gC enW l).take (l.length * 3) = gC enW l := List.take_of_length_le (by rw [wLen]; omega)
theorem bk_mk (l : List Wr) (t : Tb) (b : Bool) (k : Int) : bkN ⟨gC enW l, true, .cells true⟩ ⟨gC enF (t.l ++ t.j), false, .cells true⟩ t.l.length t.most b k = (szs t.most b k ++ (blk l t).1).length ∧ bkB ⟨gC enW l, true, .cells true⟩ ⟨gC enF (t.l ++ t.j), false, .cells true⟩ t.l.length t.most b k = bCells (szs t.most b k ++ (blk l t).1) ∧ buN ⟨gC enW l, true, .cells true⟩ ⟨gC enF (t.l ++ t.j), false, .cells true⟩ t.l.length t.most b k = (blk l t).2.l.length ∧ buS ⟨gC enW l, true, .cells true⟩ ⟨gC enF (t.l ++ t.j), false, .cells true⟩ t.l.length t.most b k = ((smN (blk l t).2.l : Nat) : Int) ∧ buC ⟨gC enW l, true, .cells true⟩ ⟨gC enF (t.l ++ t.j), false, .cells true⟩ t.l.length t.most b k = gC enF ((blk l t).2.l ++ (blk l t).2.j) := by
  have e : rowT ⟨gC enF (t.l ++ t.j), false, .cells true⟩ t.l.length t.most = t := row_T t.l t.j t.most
  rw [z_bkN, z_bkB, z_buN, z_buS, z_buC]
  simp only [decW_gC, e, and_self]
theorem bk_plain (l : List Wr) (t : Tb) (b : Bool) (k : Int) : Plain (buC ⟨gC enW l, true, .cells true⟩ ⟨gC enF (t.l ++ t.j), false, .cells true⟩ t.l.length t.most b k) ∧ Plain (bkB ⟨gC enW l, true, .cells true⟩ ⟨gC enF (t.l ++ t.j), false, .cells true⟩ t.l.length t.most b k) := by
  obtain ⟨_, e2, _, _, e5⟩ := bk_mk l t b k
  rw [e2, e5]
  exact ⟨fPl _, bCells_plain _⟩
theorem Pb_law (l : List Wr) (hl : l.length ≤ 1048576) (h : ∀ w ∈ l, (w.f.n.length ≤ 1048576 ∧ w.f.v.length ≤ 1048576) ∧ I64 w.h) : Con Try.prog 8 [.slice (some ⟨0, 0, none⟩) l.length 3] [gRo enW l] (.bool true) [gRo enW l] := by
  refine con_vc (E := EtPB) tk.mixed (calls_envT tPB_ok) (lok_envT _ _) (M := mPb) (lm_one Pb_piece) (Pb_vc l) ?_
  have ho : wOk l := ⟨hl, fun w hw => (h w hw).1⟩
  simp only [ofNat_eq, toNat_cast, Nat.zero_add, Nat.add_zero, Nat.mul_one, List.drop_zero, bCells_len, bCells_drop, bCells_take, bCells_app, bCells_one, bCells_plain, List.length_replicate, List.length_append, List.length_take, List.length_drop, List.take_length, and_true, true_and, and_self, decide_true, List.length_nil, List.length_cons, Nat.sub_zero, dB_mk, dB_ro, List.take_zero, z_wsZ0, wPl]
  have hd : decW (gC enW l) = l := decW_gC l
  have hlt : ltR ⟨gC enW l, true, .cells true⟩ = decide (wSum l ≤ 3000) := by rw [z_ltR]; simp only [hd]
  simp only [wTake, wLen, hlt]
  refine ⟨⟨⟨Nat.le_refl _, wPl _⟩, l, rfl, rfl, ho⟩, br_intro (fun _ => trivial) (fun hx => ?_)⟩
  have hx : wSum l ≤ 3000 := by simpa using hx
  refine ⟨l, hx, rfl, rfl, rfl, fun _ _ => ?_⟩
  obtain ⟨e1, e2, _⟩ := bk_mk l ⟨[], [], 4096⟩ false 0
  have ok0 : Ok ⟨[], [], 4096⟩ := ⟨by simp [smN], by simp, by simp⟩
  have hb := blk_len l ⟨[], [], 4096⟩ ok0 (by omega)
  have hs0 : szs 4096 false 0 = [] := rfl
  obtain ⟨p1, p2⟩ := bk_plain l ⟨[], [], 4096⟩ false 0
  have it := isTk_mk ⟨[], [], 4096⟩ ok0
  have e1 : bkN ⟨gC enW l, true, .cells true⟩ ⟨[], false, .cells true⟩ 0 4096 false 0 = (blk l ⟨[], [], 4096⟩).1.length := by rw [← List.nil_append (blk l ⟨[], [], 4096⟩).1]; exact e1
  rw [e1]
  exact ⟨⟨⟨Nat.le_refl _, wPl _⟩, pl_nil, ⟨p1, p2⟩, isW_mk l (by omega), it, by omega, by omega⟩, br_dec (by omega) rfl⟩
theorem z_ow2 : ow2 = fun l i => gC enW (ownW hSec l i) := Classical.choose_spec (ow_ex _)
theorem z_ow1 : ow1 = fun l i => gC enW (ownW hOne l i) := Classical.choose_spec (ow_ex _)
theorem ownW_len (hf : Nat → Int) (l : List Wr) (i : Nat) : (ownW hf l i).length = l.length := by unfold ownW; rw [List.length_mapIdx]
theorem ownW_get (hf : Nat → Int) (l : List Wr) (i j : Nat) (h : j < (ownW hf l i).length) (h2 : j < l.length) : (ownW hf l i)[j] = if j < i then ⟨l[j].f, hf j⟩ else l[j] := by
  simp only [ownW, List.getElem_mapIdx]
theorem ownW_0 (hf : Nat → Int) (l : List Wr) : ownW hf l 0 = l := by
  apply List.ext_getElem
  · exact ownW_len _ _ _
  · intro j h1 h2; rw [ownW_get _ _ _ _ _ h2, if_neg (by omega)]
theorem ownW_set (hf : Nat → Int) (l : List Wr) (i : Nat) (h : i < l.length) (h' : i < (ownW hf l i).length) : ownW hf l (i + 1) = (ownW hf l i).set i ⟨((ownW hf l i)[i]).f, hf i⟩ := by
  apply List.ext_getElem
  · rw [List.length_set, ownW_len, ownW_len]
  · intro j h1 h2
    have hj : j < l.length := by rw [ownW_len] at h1; exact h1
    have hg := ownW_get hf l i i h' h
    rw [if_neg (by omega)] at hg
    rw [List.getElem_set, ownW_get _ _ _ _ _ hj]
    by_cases e : i = j
    · subst e; rw [if_pos (by omega), if_pos rfl, hg]
    · rw [if_neg e, ownW_get _ _ _ _ _ hj]
      by_cases q : j < i
      · rw [if_pos (by omega), if_pos q]
      · rw [if_neg (by omega), if_neg q]
theorem w_put (m : List Wr) (i : Nat) (h : i < m.length) (x : Int) : ovr (gC enW m) (i * 3 + 2) [.int .i64 x] = gC enW (m.set i ⟨m[i].f, x⟩) := by
  rw [← gC_set wK m i ⟨m[i].f, x⟩ h]
  obtain ⟨c0, c1, c2, _⟩ := wGet m i h
  have hl := wLen m
  apply List.ext_getElem?
  intro j
  rw [ovr_get _ _ _ (by simp only [List.length_cons, List.length_nil]; omega), ovr_get _ _ _ (by rw [wK]; omega), wK]
  simp only [List.length_cons, List.length_nil, Nat.zero_add]
  by_cases h1 : j = i * 3
  · subst h1; rw [if_neg (by omega), if_pos (by omega), c0, Nat.sub_self]; rfl
  · by_cases h2 : j = i * 3 + 1
    · subst h2; rw [if_neg (by omega), if_pos (by omega), c1, show i * 3 + 1 - i * 3 = 1 by omega]; rfl
    · by_cases h3 : j = i * 3 + 2
      · subst h3; rw [if_pos (by omega), if_pos (by omega), show i * 3 + 2 - (i * 3 + 2) = 0 by omega, show i * 3 + 2 - i * 3 = 2 by omega]; rfl
      · rw [if_neg (by omega), if_neg (by omega)]
theorem Ps_piece : PieceOk EtPB 1 (7, pPb, specPs) := by
  refine piece_loop tk.mixed (calls_envT tPB_ok) (lok_envT _ _) lm_none (n := 60) (by kernel_rfl) (fun _ : List Wr => 0) (fun l i => i ≤ l.length) (fun l i => l.length - i) (sl := slPs) (rl := rlPs) (fun l hg => Nat.zero_le _) (fun l i hg hi => ?_)
  refine (Ps_round l i _ _).mpr ?_
  simp only [ofNat_eq, toNat_cast, Nat.zero_add, Nat.add_zero, Nat.mul_one, List.drop_zero, bCells_len, bCells_drop, bCells_take, bCells_app, bCells_one, bCells_plain, List.length_replicate, List.length_append, List.length_take, List.length_drop, List.take_length, and_true, true_and, and_self, decide_true, List.length_nil, List.length_cons, Nat.sub_zero, dB_mk, dB_ro, List.take_zero, z_ow2, wPl]
  have hl := ownW_len hSec l i
  refine br_if (fun h => br_dec (by omega) (br_dec (by rw [wLen]; omega) ?_)) (fun h => ⟨(), pl_nil, by rw [show i = l.length by omega]⟩)
  have hi' : i < l.length := by omega
  have w1 : IntKind.i64.wrap ((i : Int) + 1) = ((i + 1 : Nat) : Int) := by rw [wr64_id (by unfold I64; omega)]; omega
  have w2 : IntKind.i64.wrap (2 + (i : Int).tmod 2) = hSec i := by
    have e : (i : Int).tmod 2 = ((i % 2 : Nat) : Int) := by rw [Int.tmod_eq_emod_of_nonneg (by omega)]; omega
    unfold hSec
    rw [e, wr64_id (by unfold I64; omega)]
  rw [w1, w2, w_put _ _ (by omega)]
  exact ⟨i + 1, by omega, by omega, rfl, pl_nil, by rw [ownW_set hSec l i hi' (by omega)]⟩
theorem ownW_sum (hf : Nat → Int) (l : List Wr) (i : Nat) : wSum (ownW hf l i) = wSum l := by
  unfold wSum
  congr 1
  apply List.ext_getElem
  · rw [List.length_map, List.length_map, ownW_len]
  · intro j h1 h2
    rw [List.getElem_map, List.getElem_map, ownW_get _ _ _ _ _ (by simpa using h2)]
    split <;> rfl
theorem blk_same : ∀ (l : List Wr) (t : Tb), (∀ w ∈ l, w.h ≠ 1) → (blk l t).2 = t
  | [], t, _ => rfl
  | w :: l, t, h => by
    have e : rowU t w.f w.h = t := by
      unfold rowU; split
      · rfl
      · rw [if_neg (h w (by simp))]
    simp only [blk, e]
    exact blk_same l t fun x hx => h x (by simp [hx])
theorem Ps_law (l : List Wr) (hl : l.length ≤ 1048576) (h : ∀ w ∈ l, (w.f.n.length ≤ 1048576 ∧ w.f.v.length ≤ 1048576) ∧ I64 w.h) : Con Try.prog 7 [.slice (some ⟨0, 0, none⟩) l.length 3] [gRo enW l] (.bool true) [gRo enW l] := by
  refine con_vc (E := EtPB) tk.mixed (calls_envT tPB_ok) (lok_envT _ _) (M := mPs) (lm_one Ps_piece) (Ps_vc l) ?_
  have ho : wOk l := ⟨hl, fun w hw => (h w hw).1⟩
  simp only [ofNat_eq, toNat_cast, Nat.zero_add, Nat.add_zero, Nat.mul_one, List.drop_zero, bCells_len, bCells_drop, bCells_take, bCells_app, bCells_one, bCells_plain, List.length_replicate, List.length_append, List.length_take, List.length_drop, List.take_length, and_true, true_and, and_self, decide_true, List.length_nil, List.length_cons, Nat.sub_zero, dB_mk, dB_ro, List.take_zero, z_ow2, wPl]
  have hlt : ltR ⟨gC enW l, true, .cells true⟩ = decide (wSum l ≤ 3000) := by rw [z_ltR]; simp only [decW_gC]
  simp only [wTake, wLen, hlt, List.nil_append]
  refine br_if (fun _ => trivial) (fun h20 => ⟨⟨⟨Nat.le_refl _, wPl _⟩, l, rfl, rfl, ho⟩, br_intro (fun _ => trivial) (fun hx => br_dec (by omega) (br_b (gC_one (fun _ => rfl) l) (br_dec (by omega) ?_)))⟩)
  have hx : wSum l ≤ 3000 := by simpa using hx
  refine ⟨l, by omega, rfl, rfl, rfl, by rw [ownW_0], fun _ _ => ?_⟩
  have hlW := ownW_len hSec l l.length
  have hsW : wSum (ownW hSec l l.length) = wSum l := ownW_sum _ _ _
  generalize hW : ownW hSec l l.length = W at hlW hsW ⊢
  have tW : List.take (l.length * 3) (gC enW W) = gC enW W := List.take_of_length_le (by rw [wLen]; omega)
  simp only [tW, wLen, hlW]
  have hsec : ∀ w ∈ W, w.h ≠ 1 := by
    intro w hw
    obtain ⟨j, hj, rfl⟩ := List.getElem_of_mem hw
    subst hW
    rw [ownW_get _ _ _ _ _ (by omega), if_pos (by omega)]
    unfold hSec; simp only; omega
  have ok0 : Ok ⟨[], [], 4096⟩ := ⟨by simp [smN], by simp, by simp⟩
  obtain ⟨e1, e2, e3, e4, e5⟩ := bk_mk W ⟨[], [], 4096⟩ false 0
  rw [blk_same W _ hsec] at e3 e4 e5
  have hs0 : szs 4096 false 0 = [] := rfl
  simp only [hs0, List.nil_append] at e1 e2
  have e1 : bkN ⟨gC enW W, true, .cells true⟩ ⟨[], false, .cells true⟩ 0 4096 false 0 = (blk W ⟨[], [], 4096⟩).1.length := e1
  have e2 : bkB ⟨gC enW W, true, .cells true⟩ ⟨[], false, .cells true⟩ 0 4096 false 0 = bCells (blk W ⟨[], [], 4096⟩).1 := e2
  have e3 : buN ⟨gC enW W, true, .cells true⟩ ⟨[], false, .cells true⟩ 0 4096 false 0 = 0 := e3
  have e4 : buS ⟨gC enW W, true, .cells true⟩ ⟨[], false, .cells true⟩ 0 4096 false 0 = 0 := e4
  have e5 : buC ⟨gC enW W, true, .cells true⟩ ⟨[], false, .cells true⟩ 0 4096 false 0 = [] := e5
  have it : IsTk ⟨[], false, .cells true⟩ 0 0 4096 := isTk_mk ⟨[], [], 4096⟩ ok0
  have iw : IsW ⟨gC enW W, true, .cells true⟩ l.length := by rw [← hlW]; exact isW_mk W (by omega)
  have hb := blk_len W ⟨[], [], 4096⟩ ok0 (by omega)
  have hm : maxLen = 9223372036854775807 := by unfold maxLen; rfl
  generalize (blk W ⟨[], [], 4096⟩).1 = B at e1 e2 hb
  have ib : IsB ⟨bCells B, true, .cells true⟩ B.length := isB_mk _ _ rfl
  simp only [e1, e2, e3, e4, e5, ofNat_eq, toNat_cast, Nat.zero_add, Nat.add_zero, Nat.mul_one, List.drop_zero, bCells_len, bCells_drop, bCells_take, bCells_app, bCells_one, bCells_plain, List.length_replicate, List.length_append, List.length_take, List.length_drop, List.take_length, and_true, true_and, and_self, decide_true, List.length_nil, List.length_cons, Nat.sub_zero, dB_mk, dB_ro, List.take_zero, it, iw, ib, wPl]
  exact ⟨⟨Nat.le_refl _, pl_nil, pl_nil, by omega, by omega⟩, ⟨Nat.le_refl _, pl_nil, pl_nil, by omega, by omega⟩, br_b rfl (br_b rfl ⟨⟨Nat.le_refl _, by omega⟩, trivial⟩)⟩
theorem Ph_piece : PieceOk EtPB 1 (6, pPb, specPh) := by
  refine piece_loop tk.mixed (calls_envT tPB_ok) (lok_envT _ _) lm_none (n := 60) (by kernel_rfl) (fun _ : List Wr => 0) (fun l i => i ≤ l.length) (fun l i => l.length - i) (sl := slPs) (rl := rlPh) (fun l hg => Nat.zero_le _) (fun l i hg hi => ?_)
  refine (Ph_round l i _ _).mpr ?_
  simp only [ofNat_eq, toNat_cast, Nat.zero_add, Nat.add_zero, Nat.mul_one, List.drop_zero, bCells_len, bCells_drop, bCells_take, bCells_app, bCells_one, bCells_plain, List.length_replicate, List.length_append, List.length_take, List.length_drop, List.take_length, and_true, true_and, and_self, decide_true, List.length_nil, List.length_cons, Nat.sub_zero, dB_mk, dB_ro, List.take_zero, z_ow1, wPl]
  have hl := ownW_len hOne l i
  refine br_if (fun h => br_dec (by omega) (br_dec (by rw [wLen]; omega) ?_)) (fun h => ⟨(), pl_nil, by rw [show i = l.length by omega]⟩)
  have hi' : i < l.length := by omega
  have w1 : IntKind.i64.wrap ((i : Int) + 1) = ((i + 1 : Nat) : Int) := by rw [wr64_id (by unfold I64; omega)]; omega
  have w2 : (1 : Int) = hOne i := rfl
  rw [w1, w_put _ _ (by omega)]
  exact ⟨i + 1, by omega, by omega, rfl, pl_nil, by rw [ownW_set hOne l i hi' (by omega)]; rfl⟩
theorem fnd_iff (l : List Fl) (f : Fl) : (fndF l f).2 = true ↔ ∃ i : Nat, 1 ≤ i ∧ i ≤ 61 + l.length ∧ (getF l i).1 = f := by
  rcases fnd_spec l f (61 + l.length) 1 0 (by omega) (by omega) (.inl rfl) with ⟨r1, q, r2, r3, r4, r5, r6⟩ | ⟨r1, r2, r3⟩
  · exact ⟨fun _ => ⟨q, r3, r4, r5⟩, fun _ => r1⟩
  · have r1 : (fndF l f).2 = false := r1
    rw [r1]
    exact ⟨fun h => by simp at h, fun ⟨i, h1, h2, h3⟩ => absurd h3 (r2 i h1 h2)⟩
theorem getF_cons (f g : Fl) (l : List Fl) (i : Nat) (h : 62 ≤ i) (h2 : i ≤ 61 + l.length) : (getF (g :: l) ((i + 1 : Nat) : Int)).1 = (getF l (i : Int)).1 := by
  have a : getF (g :: l) ((i + 1 : Nat) : Int) = ((g :: l).getD (((i + 1 : Nat) : Int) - 62).toNat ⟨[], []⟩, true) := by
    unfold getF; rw [if_neg (by omega), if_pos (by simp only [List.length_cons]; omega)]
  have b : getF l (i : Int) = (l.getD ((i : Int) - 62).toNat ⟨[], []⟩, true) := by
    unfold getF; rw [if_neg (by omega), if_pos (by omega)]
  rw [a, b]
  simp only
  rw [show (((i + 1 : Nat) : Int) - 62).toNat = ((i : Int) - 62).toNat + 1 by omega, List.getD_cons_succ]
theorem fnd_cons (f g : Fl) (l : List Fl) (h : (fndF l f).2 = true) : (fndF (g :: l) f).2 = true := by
  obtain ⟨i, h1, h2, h3⟩ := (fnd_iff l f).1 h
  refine (fnd_iff _ f).2 ?_
  by_cases q : 62 ≤ i
  · exact ⟨i + 1, by omega, by simp only [List.length_cons]; omega, by rw [getF_cons f g l i q h2]; exact h3⟩
  · refine ⟨i, h1, by simp only [List.length_cons]; omega, ?_⟩
    rw [← h3]; unfold getF; rw [if_pos (by omega), if_pos (by omega)]
theorem fnd_head (f : Fl) (l : List Fl) : (fndF (f :: l) f).2 = true := by
  refine (fnd_iff _ f).2 ⟨62, by omega, by simp only [List.length_cons]; omega, ?_⟩
  unfold getF
  rw [if_neg (by omega), if_pos (by simp)]; rfl
theorem blk_add : ∀ (W : List Wr) (t : Tb), (smN t.l + wSum W : Nat) ≤ t.most → (∀ w ∈ W, w.h = 1) →
    (∀ f, (fndF t.l f).2 = true → (fndF (blk W t).2.l f).2 = true) ∧ (∀ w ∈ W, (fndF (blk W t).2.l w.f).2 = true) ∧ (blk W t).2.l.length ≤ t.l.length + W.length
  | [], t, _, _ => ⟨fun f h => h, fun w hw => by simp at hw, Nat.le_refl _⟩
  | w :: W, t, h1, h2 => by
    have e : wSum (w :: W) = fbN w.f + wSum W := by unfold wSum; rw [List.map_cons, List.sum_cons]
    have hh := h2 w (by simp)
    have hu : (rowU t w.f w.h = t ∧ (fndF t.l w.f).2 = true) ∨ rowU t w.f w.h = ⟨w.f :: t.l, [], t.most⟩ := by
      unfold rowU
      split
      · rename_i q; exact .inl ⟨rfl, q.1⟩
      · right
        unfold addT
        rw [if_neg (by omega), kp_all _ _ (by omega), List.take_length]
    simp only [blk]
    rcases hu with ⟨hu, hf⟩ | hu
    · rw [hu]
      obtain ⟨a1, a2, a3⟩ := blk_add W t (by omega) fun x hx => h2 x (by simp [hx])
      refine ⟨a1, fun x hx => ?_, by rw [List.length_cons]; omega⟩
      rcases List.mem_cons.1 hx with rfl | hx
      · exact a1 _ hf
      · exact a2 x hx
    · rw [hu]
      have es : smN (w.f :: t.l) = fbN w.f + smN t.l := by unfold smN; rw [List.map_cons, List.sum_cons]
      obtain ⟨a1, a2, a3⟩ := blk_add W ⟨w.f :: t.l, [], t.most⟩ (by simp only; omega) fun x hx => h2 x (by simp [hx])
      refine ⟨fun f hf => a1 f (fnd_cons _ _ _ hf), fun x hx => ?_, by simp only [List.length_cons] at a3 ⊢; omega⟩
      rcases List.mem_cons.1 hx with rfl | hx
      · exact a1 _ (fnd_head _ _)
      · exact a2 x hx
theorem blk_found : ∀ (W : List Wr) (t : Tb), t.l.length ≤ 20 → (∀ w ∈ W, w.h = 1 ∧ (fndF t.l w.f).2 = true) → (blk W t).1.length = W.length
  | [], t, _, _ => rfl
  | w :: W, t, h1, h2 => by
    obtain ⟨g1, g2⟩ := h2 w (by simp)
    have hc : (fndF t.l w.f).2 = true ∧ w.h ≠ 3 := ⟨g2, by omega⟩
    have eu : rowU t w.f w.h = t := if_pos hc
    obtain ⟨q, q1, q2⟩ := fnd_rng t.l w.f
    have el : rowL t w.f w.h = putB 128 7 q := by unfold rowL; rw [if_pos hc, q1]; rfl
    have e1 : (putB 128 7 q).length = 1 := by unfold putB; rw [if_pos (by omega)]; rfl
    simp only [blk, eu, el, List.length_append, List.length_cons, e1]
    have := blk_found W t h1 fun x hx => h2 x (by simp [hx])
    omega
theorem Ph_law (l : List Wr) (hl : l.length ≤ 1048576) (h : ∀ w ∈ l, (w.f.n.length ≤ 1048576 ∧ w.f.v.length ≤ 1048576) ∧ I64 w.h) : Con Try.prog 6 [.slice (some ⟨0, 0, none⟩) l.length 3] [gRo enW l] (.bool true) [gRo enW l] := by
  refine con_vc (E := EtPB) tk.mixed (calls_envT tPB_ok) (lok_envT _ _) (M := mPh) (lm_one Ph_piece) (Ph_vc l) ?_
  have ho : wOk l := ⟨hl, fun w hw => (h w hw).1⟩
  simp only [ofNat_eq, toNat_cast, Nat.zero_add, Nat.add_zero, Nat.mul_one, List.drop_zero, bCells_len, bCells_drop, bCells_take, bCells_app, bCells_one, bCells_plain, List.length_replicate, List.length_append, List.length_take, List.length_drop, List.take_length, and_true, true_and, and_self, decide_true, List.length_nil, List.length_cons, Nat.sub_zero, dB_mk, dB_ro, List.take_zero, z_ow1, wPl]
  have hlt : ltR ⟨gC enW l, true, .cells true⟩ = decide (wSum l ≤ 3000) := by rw [z_ltR]; simp only [decW_gC]
  simp only [wTake, wLen, hlt, List.nil_append]
  refine br_if (fun _ => trivial) (fun h20 => ⟨⟨⟨Nat.le_refl _, wPl _⟩, l, rfl, rfl, ho⟩, br_intro (fun _ => trivial) (fun hx => br_dec (by omega) (br_b (gC_one (fun _ => rfl) l) (br_dec (by omega) ?_)))⟩)
  have hx : wSum l ≤ 3000 := by simpa using hx
  refine ⟨l, by omega, rfl, rfl, rfl, by rw [ownW_0], fun _ _ => ?_⟩
  have hlW := ownW_len hOne l l.length
  have hsW : wSum (ownW hOne l l.length) = wSum l := ownW_sum _ _ _
  generalize hW : ownW hOne l l.length = W at hlW hsW ⊢
  have tW : List.take (l.length * 3) (gC enW W) = gC enW W := List.take_of_length_le (by rw [wLen]; omega)
  simp only [tW, wLen, hlW]
  have hone : ∀ w ∈ W, w.h = 1 := by
    intro w hw
    obtain ⟨j, hj, rfl⟩ := List.getElem_of_mem hw
    subst hW
    rw [ownW_get _ _ _ _ _ (by omega), if_pos (by omega)]; rfl
  have ok0 : Ok ⟨[], [], 65536⟩ := ⟨by simp [smN], by simp, by simp⟩
  obtain ⟨a1, a2, a3⟩ := blk_add W ⟨[], [], 65536⟩ (by simp only [smN, List.map_nil, List.sum_nil]; omega) hone
  have ok1 := ok_blk W _ ok0
  have hm1 := blk_m W ⟨[], [], 65536⟩
  obtain ⟨e1, e2, e3, e4, e5⟩ := bk_mk W ⟨[], [], 65536⟩ false 0
  have e1 : bkN ⟨gC enW W, true, .cells true⟩ ⟨[], false, .cells true⟩ 0 65536 false 0 = _ := e1
  have e2 : bkB ⟨gC enW W, true, .cells true⟩ ⟨[], false, .cells true⟩ 0 65536 false 0 = _ := e2
  have e3 : buN ⟨gC enW W, true, .cells true⟩ ⟨[], false, .cells true⟩ 0 65536 false 0 = _ := e3
  have e4 : buS ⟨gC enW W, true, .cells true⟩ ⟨[], false, .cells true⟩ 0 65536 false 0 = _ := e4
  have e5 : buC ⟨gC enW W, true, .cells true⟩ ⟨[], false, .cells true⟩ 0 65536 false 0 = _ := e5
  simp only [List.length_nil, Nat.zero_add] at a3
  have hfd := blk_found W (blk W ⟨[], [], 65536⟩).2 (by omega) fun w hw => ⟨hone w hw, a2 w hw⟩
  generalize (blk W ⟨[], [], 65536⟩).2 = u at e1 e2 e3 e4 e5 ok1 hm1 hfd
  obtain ⟨f1, f2, f3, f4, f5⟩ := bk_mk W u false 0
  rw [hm1] at f1 f2 f3 f4 f5
  have hs0 : szs 65536 false 0 = [] := rfl
  simp only [hs0, List.nil_append] at e1 e2 f1 f2
  have it : IsTk ⟨[], false, .cells true⟩ 0 0 65536 := isTk_mk ⟨[], [], 65536⟩ ok0
  have iu : IsTk ⟨gC enF (u.l ++ u.j), false, .cells true⟩ u.l.length ((smN u.l : Nat) : Int) 65536 := by have := isTk_mk u ok1; rw [hm1] at this; exact this
  have iw : IsW ⟨gC enW W, true, .cells true⟩ l.length := by rw [← hlW]; exact isW_mk W (by omega)
  simp only [e1, e2, e3, e4, e5, f1, f2, f3, f4, f5, ofNat_eq, toNat_cast, Nat.zero_add, Nat.add_zero, Nat.mul_one, List.drop_zero, bCells_len, bCells_drop, bCells_take, bCells_app, bCells_one, bCells_plain, List.length_replicate, List.length_append, List.length_take, List.length_drop, List.take_length, and_true, true_and, and_self, decide_true, List.length_nil, List.length_cons, Nat.sub_zero, dB_mk, dB_ro, List.take_zero, it, iu, iw, wPl, hfd, fPl, hlW]
  refine ⟨⟨Nat.le_refl _, pl_nil, by omega, by omega⟩, ⟨Nat.le_refl _, by omega, by omega⟩, ?_⟩
  rw [wr64_id (by unfold I64; omega)]
  exact br_dec (by omega) (br_intro (fun _ => trivial) (fun _ => br_dec (by omega) trivial))
theorem q_rows {Q : Nat → Prop} {n : Nat} {cells : List Value} (h : ElemsQ Q [.s, .s, .i .i64] n cells) : ∃ l : List Wr, l.length = n ∧ cells = gC enW l ∧ ∀ w ∈ l, (Q w.f.n.length ∧ Q w.f.v.length) ∧ I64 w.h := by
  obtain ⟨l, h1, h2, h3⟩ := h.data (α := Wr) enW (fun w => (Q w.f.n.length ∧ Q w.f.v.length) ∧ I64 w.h) (fun c hc => by
    match c, hc with
    | [x, y, z], hc =>
      obtain ⟨c1, c2, c3, _⟩ := hc
      obtain ⟨s, rfl, w1, b1⟩ := cq_s c1
      obtain ⟨t, rfl, w2, b2⟩ := cq_s c2
      obtain ⟨k, rfl, w3⟩ := cq_i c3
      exact ⟨⟨⟨L s, L t⟩, k⟩, rfl, ⟨b1, b2⟩, Sy.wf64 w3⟩)
  exact ⟨l, h1, h2, h3⟩
end Go.Proofs.Ytlkinjlbaeigdaa.pk
