/- The law: any fields, as a request, a response, as trailers. -/
import Derived.Test.YteodlmfnkjdhhaaSz9
import Derived.Test.YteodlmfnkjdhhaaRows
import Derived.Test.YteodlmfnkjdhhaaLrtReq
import Derived.Test.YteodlmfnkjdhhaaLlgt15
import Derived.Test.YteodlmfnkjdhhaaLfEnts
import Derived.Test.YteodlmfnkjdhhaaLtrn
set_option linter.unusedSimpArgs false
set_option linter.unusedVariables false
namespace Go.Proofs.Yteodlmfnkjdhhaa.tk
open Go Go.Ev Go.Sy Go.RowKit Go.Proofs.Yteodlmfnkjdhhaa.gl
noncomputable def eMsRuns : EntM := entC 3 fun a r => match a, r with
  | [], [] => some (True, .bool true, [])
  | _, _ => none
noncomputable def tMs : List EntM := [eL3, eRoom, eInt, eRq, eRs, eRr, eRp, eRba, ePl, eRpl, eRqE, eRsE, eMsRuns]
noncomputable abbrev EtMs : Env := envT Try.prog tMs
structure GMs where
  l : List Fl
  f : List Fl
  r : RqP
  k : Int
  c : List Fl
def pMs : List Nat := [0, 1, 0, 1, 1, 1, 1, 1, 1, 1, 1, 1, 1]
def rqBox (r : RqP) (q n : Nat) (k : Int) : List Value := [.string (bs r.m), .string (bs r.s), .string (bs r.a), .string (bs r.p), .slice (some ⟨q, 0, none⟩) n 2, .int .i64 k]
def slMs0 (g : GMs) : List (Nat × Value) := [(0, .slice (some ⟨0, 0, none⟩) g.l.length 2), (3, .slice (some ⟨1, 0, none⟩) g.f.length 2)]
def slMs (g : GMs) (i : Nat) : List (Nat × Value) := slMs0 g ++ [(5, .pointer (some ⟨2, 0, none⟩)), (15, .int .i64 (i : Nat))]
def rlMs (g : GMs) (i : Nat) : List (Nat × Row) := [(0, gRo enF g.l), (1, gOwn enF g.f), (2, ⟨rqBox g.r 3 g.c.length g.k, false, .cells false⟩), (3, gOwn enF (trn g.c i))]
def wsMs (g : GMs) : List (Gate Unit) := [⟨.exit 0, fun _ => True, fun _ => slMs0 g, fun _ => [(0, gRo enF g.l), (1, gOwn enF g.f)], 2⟩]
def specMs : Sy.Spec := specOf 1 4 102 (fun g : GMs => g.c.length ≤ 16777000) (fun g => slMs g 0) (fun g => rlMs g 0) wsMs
def mMs := mOf [(4, pMs, specMs)]
theorem Ms_round (g : GMs) (i : Nat) (Inv : Nat → Prop) (m : Nat → Nat) : mev EtMs noM 60 4 (0 :: pMs) false (codeOf Try.prog 4 (0 :: pMs)) ⟨mkOv (slMs g i), 102, []⟩ none ⟨mkR (rlMs g i), 4⟩ (roundK 1 4 102 Inv m (slMs g) (rlMs g) (wsMs g) i) =
  (br (decide ((↑i : Int) < Int.ofNat (List.length g.5)))
   (br (decide ((0 : Int) ≤ (↑i : Int) ∧ (↑i : Int) < (↑(List.length g.5) : Int)))
    (br (decide ((0 : Nat) + Int.toNat (↑i : Int) * (2 : Nat) + (2 : Nat) ≤ List.length (gC enF (trn g.5 i))))
     ((Value.slice (some (Addr.mk (3 : Nat) (0 : Nat) none)) (List.length g.5) (2 : Nat) = Value.slice (some (Addr.mk (3 : Nat) (0 : Nat) none)) (List.length g.5) (2 : Nat)) ∧
     ((Value.slice (some (Addr.mk (3 : Nat) (0 : Nat) none)) (List.length g.5) (2 : Nat) = Value.slice (some (Addr.mk (3 : Nat) (0 : Nat) none)) (List.length g.5) (2 : Nat)) ∧
     (∃ j : Nat, ((Inv j) ∧
     ((m j < m i) ∧
     (((0 : Nat) = (0 : Nat)) ∧
     ((List.length g.1 = List.length g.1) ∧
     (((0 : Nat) = (0 : Nat)) ∧
     ((List.length g.2 = List.length g.2) ∧
     (((0 : Nat) = (0 : Nat)) ∧
     (((↑j : Int) = IntKind.wrap IntKind.i64 ((↑i : Int) + (1 : Int))) ∧
     ((Eq (α := List Value) (gC enF g.1) (gC enF g.1)) ∧
     ((Plain (gC enF g.1)) ∧
     ((Eq (α := List Value) (gC enF g.2) (gC enF g.2)) ∧
     ((Plain (gC enF g.2)) ∧
     ((bs g.3.1 = bs g.3.1) ∧
     ((bs g.3.2 = bs g.3.2) ∧
     ((bs g.3.3 = bs g.3.3) ∧
     ((bs g.3.4 = bs g.3.4) ∧
     (((0 : Nat) = (0 : Nat)) ∧
     ((List.length g.5 = List.length g.5) ∧
     ((g.4 = g.4) ∧
     ((Eq (α := List Value) (gC enF (trn g.5 j)) (ovr (gC enF (trn g.5 i)) ((0 : Nat) + Int.toNat (↑i : Int) * (2 : Nat)) [Value.string (ByteArray.mk #[(116 : UInt8), (117 : UInt8), (114 : UInt8), (110 : UInt8), (101 : UInt8), (100 : UInt8)]), Value.string (ByteArray.mk #[])])) ∧
     ((Plain (gC enF (trn g.5 j))) ∧
     True))))))))))))))))))))))))
     False)
    False)
   (∃ y : Unit, ((True) ∧
   (((0 : Nat) = (0 : Nat)) ∧
   ((List.length g.1 = List.length g.1) ∧
   (((0 : Nat) = (0 : Nat)) ∧
   ((List.length g.2 = List.length g.2) ∧
   ((Eq (α := List Value) (gC enF g.1) (gC enF g.1)) ∧
   ((Plain (gC enF g.1)) ∧
   ((Eq (α := List Value) (gC enF g.2) (gC enF g.2)) ∧
   ((Plain (gC enF g.2)) ∧
   True))))))))))) := by kernel_rfl
theorem Ms_vc (l : List Fl) : mcall EtMs mMs 60 4 [.slice (some ⟨0, 0, none⟩) l.length 2] ⟨mkR (nums 0 [gRo enF l]), 1⟩ (retIs 1 (.bool true) [gRo enF l]) =
  ((((((0 : Nat) + List.length l * (2 : Nat) ≤ List.length (gC enF l) ∧ Plain (List.take (List.length l * (2 : Nat)) (List.drop (0 : Nat) (gC enF l)))) ∧ True) ∧ ((True ∧ True) ∧ (True ∧ (IsF (Row.mk (List.take (List.length l * (2 : Nat)) (List.drop (0 : Nat) (gC enF l))) true (Ob.cells true)) (List.length l) ∧ (List.length l ≤ (1048576 : Nat) ∧ ShR (Row.mk (List.take (List.length l * (2 : Nat)) (List.drop (0 : Nat) (gC enF l))) true (Ob.cells true)))))))) ∧
  (br (!lg3R (Row.mk (List.take (List.length l * (2 : Nat)) (List.drop (0 : Nat) (gC enF l))) true (Ob.cells true)))
   (((True ∧ (True ∧ (True ∧ True)))) ∧
   ((true = true) ∧
   ((Eq (α := List Value) (gC enF l) (gC enF l)) ∧
   ((Plain (gC enF l)) ∧
   True))))
   ((((((0 : Nat) + List.length l * (2 : Nat) ≤ List.length (gC enF l) ∧ Plain (List.take (List.length l * (2 : Nat)) (List.drop (0 : Nat) (gC enF l)))) ∧ ((True ∧ (True ∧ True)) ∧ True)) ∧ ((True ∧ True) ∧ ((Plain (rmC (Row.mk (List.take (List.length l * (2 : Nat)) (List.drop (0 : Nat) (gC enF l))) true (Ob.cells true)) (ByteArray.mk #[(109 : UInt8)]) (ByteArray.mk #[])) ∧ True) ∧ (IsF (Row.mk (List.take (List.length l * (2 : Nat)) (List.drop (0 : Nat) (gC enF l))) true (Ob.cells true)) (List.length l) ∧ List.length l ≤ (16777000 : Nat)))))) ∧
   (br (decide ((0 : Int) ≤ (↑(0 : Nat) : Int) ∧ (0 : Int) ≤ Int.ofNat (List.length l) ∧ Int.ofNat (List.length l) ≤ (↑(List.length l + (80 : Nat)) : Int)))
    ((((((0 : Nat) + (Int.toNat (Int.ofNat (List.length l)) - (0 : Nat)) * (2 : Nat) ≤ List.length (rmC (Row.mk (List.take (List.length l * (2 : Nat)) (List.drop (0 : Nat) (gC enF l))) true (Ob.cells true)) (ByteArray.mk #[(109 : UInt8)]) (ByteArray.mk #[])) ∧ Plain (List.take ((Int.toNat (Int.ofNat (List.length l)) - (0 : Nat)) * (2 : Nat)) (List.drop (0 : Nat) (rmC (Row.mk (List.take (List.length l * (2 : Nat)) (List.drop (0 : Nat) (gC enF l))) true (Ob.cells true)) (ByteArray.mk #[(109 : UInt8)]) (ByteArray.mk #[]))))) ∧ True) ∧ ((True ∧ True) ∧ ((Plain (rqC (Row.mk (List.take ((Int.toNat (Int.ofNat (List.length l)) - (0 : Nat)) * (2 : Nat)) (List.drop (0 : Nat) (rmC (Row.mk (List.take (List.length l * (2 : Nat)) (List.drop (0 : Nat) (gC enF l))) true (Ob.cells true)) (ByteArray.mk #[(109 : UInt8)]) (ByteArray.mk #[])))) true (Ob.cells true))) ∧ True) ∧ (IsF (Row.mk (List.take ((Int.toNat (Int.ofNat (List.length l)) - (0 : Nat)) * (2 : Nat)) (List.drop (0 : Nat) (rmC (Row.mk (List.take (List.length l * (2 : Nat)) (List.drop (0 : Nat) (gC enF l))) true (Ob.cells true)) (ByteArray.mk #[(109 : UInt8)]) (ByteArray.mk #[])))) true (Ob.cells true)) (Int.toNat (Int.ofNat (List.length l)) - (0 : Nat)) ∧ (Int.toNat (Int.ofNat (List.length l)) - (0 : Nat) ≤ (16777000 : Nat) ∧ ShR (Row.mk (List.take ((Int.toNat (Int.ofNat (List.length l)) - (0 : Nat)) * (2 : Nat)) (List.drop (0 : Nat) (rmC (Row.mk (List.take (List.length l * (2 : Nat)) (List.drop (0 : Nat) (gC enF l))) true (Ob.cells true)) (ByteArray.mk #[(109 : UInt8)]) (ByteArray.mk #[])))) true (Ob.cells true)))))))) ∧
    ((((((0 : Nat) + (Int.toNat (Int.ofNat (List.length l)) - (0 : Nat)) * (2 : Nat) ≤ List.length (rmC (Row.mk (List.take (List.length l * (2 : Nat)) (List.drop (0 : Nat) (gC enF l))) true (Ob.cells true)) (ByteArray.mk #[(109 : UInt8)]) (ByteArray.mk #[])) ∧ Plain (List.take ((Int.toNat (Int.ofNat (List.length l)) - (0 : Nat)) * (2 : Nat)) (List.drop (0 : Nat) (rmC (Row.mk (List.take (List.length l * (2 : Nat)) (List.drop (0 : Nat) (gC enF l))) true (Ob.cells true)) (ByteArray.mk #[(109 : UInt8)]) (ByteArray.mk #[]))))) ∧ True) ∧ ((True ∧ True) ∧ ((Plain (rsC (Row.mk (List.take ((Int.toNat (Int.ofNat (List.length l)) - (0 : Nat)) * (2 : Nat)) (List.drop (0 : Nat) (rmC (Row.mk (List.take (List.length l * (2 : Nat)) (List.drop (0 : Nat) (gC enF l))) true (Ob.cells true)) (ByteArray.mk #[(109 : UInt8)]) (ByteArray.mk #[])))) true (Ob.cells true))) ∧ True) ∧ (IsF (Row.mk (List.take ((Int.toNat (Int.ofNat (List.length l)) - (0 : Nat)) * (2 : Nat)) (List.drop (0 : Nat) (rmC (Row.mk (List.take (List.length l * (2 : Nat)) (List.drop (0 : Nat) (gC enF l))) true (Ob.cells true)) (ByteArray.mk #[(109 : UInt8)]) (ByteArray.mk #[])))) true (Ob.cells true)) (Int.toNat (Int.ofNat (List.length l)) - (0 : Nat)) ∧ (Int.toNat (Int.ofNat (List.length l)) - (0 : Nat) ≤ (16777000 : Nat) ∧ ShR (Row.mk (List.take ((Int.toNat (Int.ofNat (List.length l)) - (0 : Nat)) * (2 : Nat)) (List.drop (0 : Nat) (rmC (Row.mk (List.take (List.length l * (2 : Nat)) (List.drop (0 : Nat) (gC enF l))) true (Ob.cells true)) (ByteArray.mk #[(109 : UInt8)]) (ByteArray.mk #[])))) true (Ob.cells true)))))))) ∧
    ((((((0 : Nat) + List.length l * (2 : Nat) ≤ List.length (gC enF l) ∧ Plain (List.take (List.length l * (2 : Nat)) (List.drop (0 : Nat) (gC enF l)))) ∧ True) ∧ ((True ∧ True) ∧ ((Plain (rqC (Row.mk (List.take (List.length l * (2 : Nat)) (List.drop (0 : Nat) (gC enF l))) true (Ob.cells true))) ∧ True) ∧ (IsF (Row.mk (List.take (List.length l * (2 : Nat)) (List.drop (0 : Nat) (gC enF l))) true (Ob.cells true)) (List.length l) ∧ (List.length l ≤ (16777000 : Nat) ∧ ShR (Row.mk (List.take (List.length l * (2 : Nat)) (List.drop (0 : Nat) (gC enF l))) true (Ob.cells true)))))))) ∧
    ((((((0 : Nat) + List.length l * (2 : Nat) ≤ List.length (gC enF l) ∧ Plain (List.take (List.length l * (2 : Nat)) (List.drop (0 : Nat) (gC enF l)))) ∧ True) ∧ ((True ∧ True) ∧ ((Plain (rsC (Row.mk (List.take (List.length l * (2 : Nat)) (List.drop (0 : Nat) (gC enF l))) true (Ob.cells true))) ∧ True) ∧ (IsF (Row.mk (List.take (List.length l * (2 : Nat)) (List.drop (0 : Nat) (gC enF l))) true (Ob.cells true)) (List.length l) ∧ (List.length l ≤ (16777000 : Nat) ∧ ShR (Row.mk (List.take (List.length l * (2 : Nat)) (List.drop (0 : Nat) (gC enF l))) true (Ob.cells true)))))))) ∧
    ((((((0 : Nat) + List.length l * (2 : Nat) ≤ List.length (gC enF l) ∧ Plain (List.take (List.length l * (2 : Nat)) (List.drop (0 : Nat) (gC enF l)))) ∧ True) ∧ ((True ∧ True) ∧ (True ∧ (IsF (Row.mk (List.take (List.length l * (2 : Nat)) (List.drop (0 : Nat) (gC enF l))) true (Ob.cells true)) (List.length l) ∧ List.length l ≤ (9223372036854775807 : Nat)))))) ∧
    (br (!rqB (Row.mk (List.take ((Int.toNat (Int.ofNat (List.length l)) - (0 : Nat)) * (2 : Nat)) (List.drop (0 : Nat) (rmC (Row.mk (List.take (List.length l * (2 : Nat)) (List.drop (0 : Nat) (gC enF l))) true (Ob.cells true)) (ByteArray.mk #[(109 : UInt8)]) (ByteArray.mk #[])))) true (Ob.cells true)) == rqB (Row.mk (List.take (List.length l * (2 : Nat)) (List.drop (0 : Nat) (gC enF l))) true (Ob.cells true)))
     ((true = false) ∧
     ((Eq (α := List Value) (gC enF l) (gC enF l)) ∧
     ((Plain (gC enF l)) ∧
     True)))
     (br (!rsB (Row.mk (List.take ((Int.toNat (Int.ofNat (List.length l)) - (0 : Nat)) * (2 : Nat)) (List.drop (0 : Nat) (rmC (Row.mk (List.take (List.length l * (2 : Nat)) (List.drop (0 : Nat) (gC enF l))) true (Ob.cells true)) (ByteArray.mk #[(109 : UInt8)]) (ByteArray.mk #[])))) true (Ob.cells true)) == rsB (Row.mk (List.take (List.length l * (2 : Nat)) (List.drop (0 : Nat) (gC enF l))) true (Ob.cells true)))
      ((true = false) ∧
      ((Eq (α := List Value) (gC enF l) (gC enF l)) ∧
      ((Plain (gC enF l)) ∧
      True)))
      (((((True ∧ (True ∧ (True ∧ (True ∧ (((0 : Nat) + rqN (Row.mk (List.take ((Int.toNat (Int.ofNat (List.length l)) - (0 : Nat)) * (2 : Nat)) (List.drop (0 : Nat) (rmC (Row.mk (List.take (List.length l * (2 : Nat)) (List.drop (0 : Nat) (gC enF l))) true (Ob.cells true)) (ByteArray.mk #[(109 : UInt8)]) (ByteArray.mk #[])))) true (Ob.cells true)) * (2 : Nat) ≤ List.length (rqC (Row.mk (List.take ((Int.toNat (Int.ofNat (List.length l)) - (0 : Nat)) * (2 : Nat)) (List.drop (0 : Nat) (rmC (Row.mk (List.take (List.length l * (2 : Nat)) (List.drop (0 : Nat) (gC enF l))) true (Ob.cells true)) (ByteArray.mk #[(109 : UInt8)]) (ByteArray.mk #[])))) true (Ob.cells true))) ∧ Plain (List.take (rqN (Row.mk (List.take ((Int.toNat (Int.ofNat (List.length l)) - (0 : Nat)) * (2 : Nat)) (List.drop (0 : Nat) (rmC (Row.mk (List.take (List.length l * (2 : Nat)) (List.drop (0 : Nat) (gC enF l))) true (Ob.cells true)) (ByteArray.mk #[(109 : UInt8)]) (ByteArray.mk #[])))) true (Ob.cells true)) * (2 : Nat)) (List.drop (0 : Nat) (rqC (Row.mk (List.take ((Int.toNat (Int.ofNat (List.length l)) - (0 : Nat)) * (2 : Nat)) (List.drop (0 : Nat) (rmC (Row.mk (List.take (List.length l * (2 : Nat)) (List.drop (0 : Nat) (gC enF l))) true (Ob.cells true)) (ByteArray.mk #[(109 : UInt8)]) (ByteArray.mk #[])))) true (Ob.cells true)))))) ∧ (True ∧ True)))))) ∧ ((True ∧ (True ∧ (True ∧ (True ∧ (((0 : Nat) + rqN (Row.mk (List.take (List.length l * (2 : Nat)) (List.drop (0 : Nat) (gC enF l))) true (Ob.cells true)) * (2 : Nat) ≤ List.length (rqC (Row.mk (List.take (List.length l * (2 : Nat)) (List.drop (0 : Nat) (gC enF l))) true (Ob.cells true))) ∧ Plain (List.take (rqN (Row.mk (List.take (List.length l * (2 : Nat)) (List.drop (0 : Nat) (gC enF l))) true (Ob.cells true)) * (2 : Nat)) (List.drop (0 : Nat) (rqC (Row.mk (List.take (List.length l * (2 : Nat)) (List.drop (0 : Nat) (gC enF l))) true (Ob.cells true)))))) ∧ (True ∧ True)))))) ∧ True)) ∧ ((True ∧ (True ∧ True)) ∧ (True ∧ (IsF (Row.mk (List.take (rqN (Row.mk (List.take ((Int.toNat (Int.ofNat (List.length l)) - (0 : Nat)) * (2 : Nat)) (List.drop (0 : Nat) (rmC (Row.mk (List.take (List.length l * (2 : Nat)) (List.drop (0 : Nat) (gC enF l))) true (Ob.cells true)) (ByteArray.mk #[(109 : UInt8)]) (ByteArray.mk #[])))) true (Ob.cells true)) * (2 : Nat)) (List.drop (0 : Nat) (rqC (Row.mk (List.take ((Int.toNat (Int.ofNat (List.length l)) - (0 : Nat)) * (2 : Nat)) (List.drop (0 : Nat) (rmC (Row.mk (List.take (List.length l * (2 : Nat)) (List.drop (0 : Nat) (gC enF l))) true (Ob.cells true)) (ByteArray.mk #[(109 : UInt8)]) (ByteArray.mk #[])))) true (Ob.cells true))))) true (Ob.cells true)) (rqN (Row.mk (List.take ((Int.toNat (Int.ofNat (List.length l)) - (0 : Nat)) * (2 : Nat)) (List.drop (0 : Nat) (rmC (Row.mk (List.take (List.length l * (2 : Nat)) (List.drop (0 : Nat) (gC enF l))) true (Ob.cells true)) (ByteArray.mk #[(109 : UInt8)]) (ByteArray.mk #[])))) true (Ob.cells true))) ∧ (IsF (Row.mk (List.take (rqN (Row.mk (List.take (List.length l * (2 : Nat)) (List.drop (0 : Nat) (gC enF l))) true (Ob.cells true)) * (2 : Nat)) (List.drop (0 : Nat) (rqC (Row.mk (List.take (List.length l * (2 : Nat)) (List.drop (0 : Nat) (gC enF l))) true (Ob.cells true))))) true (Ob.cells true)) (rqN (Row.mk (List.take (List.length l * (2 : Nat)) (List.drop (0 : Nat) (gC enF l))) true (Ob.cells true))) ∧ rqN (Row.mk (List.take ((Int.toNat (Int.ofNat (List.length l)) - (0 : Nat)) * (2 : Nat)) (List.drop (0 : Nat) (rmC (Row.mk (List.take (List.length l * (2 : Nat)) (List.drop (0 : Nat) (gC enF l))) true (Ob.cells true)) (ByteArray.mk #[(109 : UInt8)]) (ByteArray.mk #[])))) true (Ob.cells true)) ≤ (9223372036854775807 : Nat))))))) ∧
      (br (!rqF (rqM (Row.mk (List.take ((Int.toNat (Int.ofNat (List.length l)) - (0 : Nat)) * (2 : Nat)) (List.drop (0 : Nat) (rmC (Row.mk (List.take (List.length l * (2 : Nat)) (List.drop (0 : Nat) (gC enF l))) true (Ob.cells true)) (ByteArray.mk #[(109 : UInt8)]) (ByteArray.mk #[])))) true (Ob.cells true))) (rqS (Row.mk (List.take ((Int.toNat (Int.ofNat (List.length l)) - (0 : Nat)) * (2 : Nat)) (List.drop (0 : Nat) (rmC (Row.mk (List.take (List.length l * (2 : Nat)) (List.drop (0 : Nat) (gC enF l))) true (Ob.cells true)) (ByteArray.mk #[(109 : UInt8)]) (ByteArray.mk #[])))) true (Ob.cells true))) (rqA (Row.mk (List.take ((Int.toNat (Int.ofNat (List.length l)) - (0 : Nat)) * (2 : Nat)) (List.drop (0 : Nat) (rmC (Row.mk (List.take (List.length l * (2 : Nat)) (List.drop (0 : Nat) (gC enF l))) true (Ob.cells true)) (ByteArray.mk #[(109 : UInt8)]) (ByteArray.mk #[])))) true (Ob.cells true))) (rqP (Row.mk (List.take ((Int.toNat (Int.ofNat (List.length l)) - (0 : Nat)) * (2 : Nat)) (List.drop (0 : Nat) (rmC (Row.mk (List.take (List.length l * (2 : Nat)) (List.drop (0 : Nat) (gC enF l))) true (Ob.cells true)) (ByteArray.mk #[(109 : UInt8)]) (ByteArray.mk #[])))) true (Ob.cells true))) (rqK (Row.mk (List.take ((Int.toNat (Int.ofNat (List.length l)) - (0 : Nat)) * (2 : Nat)) (List.drop (0 : Nat) (rmC (Row.mk (List.take (List.length l * (2 : Nat)) (List.drop (0 : Nat) (gC enF l))) true (Ob.cells true)) (ByteArray.mk #[(109 : UInt8)]) (ByteArray.mk #[])))) true (Ob.cells true))) (rqM (Row.mk (List.take (List.length l * (2 : Nat)) (List.drop (0 : Nat) (gC enF l))) true (Ob.cells true))) (rqS (Row.mk (List.take (List.length l * (2 : Nat)) (List.drop (0 : Nat) (gC enF l))) true (Ob.cells true))) (rqA (Row.mk (List.take (List.length l * (2 : Nat)) (List.drop (0 : Nat) (gC enF l))) true (Ob.cells true))) (rqP (Row.mk (List.take (List.length l * (2 : Nat)) (List.drop (0 : Nat) (gC enF l))) true (Ob.cells true))) (rqK (Row.mk (List.take (List.length l * (2 : Nat)) (List.drop (0 : Nat) (gC enF l))) true (Ob.cells true))) (Row.mk (List.take (rqN (Row.mk (List.take ((Int.toNat (Int.ofNat (List.length l)) - (0 : Nat)) * (2 : Nat)) (List.drop (0 : Nat) (rmC (Row.mk (List.take (List.length l * (2 : Nat)) (List.drop (0 : Nat) (gC enF l))) true (Ob.cells true)) (ByteArray.mk #[(109 : UInt8)]) (ByteArray.mk #[])))) true (Ob.cells true)) * (2 : Nat)) (List.drop (0 : Nat) (rqC (Row.mk (List.take ((Int.toNat (Int.ofNat (List.length l)) - (0 : Nat)) * (2 : Nat)) (List.drop (0 : Nat) (rmC (Row.mk (List.take (List.length l * (2 : Nat)) (List.drop (0 : Nat) (gC enF l))) true (Ob.cells true)) (ByteArray.mk #[(109 : UInt8)]) (ByteArray.mk #[])))) true (Ob.cells true))))) true (Ob.cells true)) (Row.mk (List.take (rqN (Row.mk (List.take (List.length l * (2 : Nat)) (List.drop (0 : Nat) (gC enF l))) true (Ob.cells true)) * (2 : Nat)) (List.drop (0 : Nat) (rqC (Row.mk (List.take (List.length l * (2 : Nat)) (List.drop (0 : Nat) (gC enF l))) true (Ob.cells true))))) true (Ob.cells true)))
       ((true = false) ∧
       ((Eq (α := List Value) (gC enF l) (gC enF l)) ∧
       ((Plain (gC enF l)) ∧
       True)))
       (((((True ∧ (((0 : Nat) + rsN (Row.mk (List.take ((Int.toNat (Int.ofNat (List.length l)) - (0 : Nat)) * (2 : Nat)) (List.drop (0 : Nat) (rmC (Row.mk (List.take (List.length l * (2 : Nat)) (List.drop (0 : Nat) (gC enF l))) true (Ob.cells true)) (ByteArray.mk #[(109 : UInt8)]) (ByteArray.mk #[])))) true (Ob.cells true)) * (2 : Nat) ≤ List.length (rsC (Row.mk (List.take ((Int.toNat (Int.ofNat (List.length l)) - (0 : Nat)) * (2 : Nat)) (List.drop (0 : Nat) (rmC (Row.mk (List.take (List.length l * (2 : Nat)) (List.drop (0 : Nat) (gC enF l))) true (Ob.cells true)) (ByteArray.mk #[(109 : UInt8)]) (ByteArray.mk #[])))) true (Ob.cells true))) ∧ Plain (List.take (rsN (Row.mk (List.take ((Int.toNat (Int.ofNat (List.length l)) - (0 : Nat)) * (2 : Nat)) (List.drop (0 : Nat) (rmC (Row.mk (List.take (List.length l * (2 : Nat)) (List.drop (0 : Nat) (gC enF l))) true (Ob.cells true)) (ByteArray.mk #[(109 : UInt8)]) (ByteArray.mk #[])))) true (Ob.cells true)) * (2 : Nat)) (List.drop (0 : Nat) (rsC (Row.mk (List.take ((Int.toNat (Int.ofNat (List.length l)) - (0 : Nat)) * (2 : Nat)) (List.drop (0 : Nat) (rmC (Row.mk (List.take (List.length l * (2 : Nat)) (List.drop (0 : Nat) (gC enF l))) true (Ob.cells true)) (ByteArray.mk #[(109 : UInt8)]) (ByteArray.mk #[])))) true (Ob.cells true)))))) ∧ (True ∧ True))) ∧ ((True ∧ (((0 : Nat) + rsN (Row.mk (List.take (List.length l * (2 : Nat)) (List.drop (0 : Nat) (gC enF l))) true (Ob.cells true)) * (2 : Nat) ≤ List.length (rsC (Row.mk (List.take (List.length l * (2 : Nat)) (List.drop (0 : Nat) (gC enF l))) true (Ob.cells true))) ∧ Plain (List.take (rsN (Row.mk (List.take (List.length l * (2 : Nat)) (List.drop (0 : Nat) (gC enF l))) true (Ob.cells true)) * (2 : Nat)) (List.drop (0 : Nat) (rsC (Row.mk (List.take (List.length l * (2 : Nat)) (List.drop (0 : Nat) (gC enF l))) true (Ob.cells true)))))) ∧ (True ∧ True))) ∧ True)) ∧ ((True ∧ (True ∧ True)) ∧ (True ∧ (IsF (Row.mk (List.take (rsN (Row.mk (List.take ((Int.toNat (Int.ofNat (List.length l)) - (0 : Nat)) * (2 : Nat)) (List.drop (0 : Nat) (rmC (Row.mk (List.take (List.length l * (2 : Nat)) (List.drop (0 : Nat) (gC enF l))) true (Ob.cells true)) (ByteArray.mk #[(109 : UInt8)]) (ByteArray.mk #[])))) true (Ob.cells true)) * (2 : Nat)) (List.drop (0 : Nat) (rsC (Row.mk (List.take ((Int.toNat (Int.ofNat (List.length l)) - (0 : Nat)) * (2 : Nat)) (List.drop (0 : Nat) (rmC (Row.mk (List.take (List.length l * (2 : Nat)) (List.drop (0 : Nat) (gC enF l))) true (Ob.cells true)) (ByteArray.mk #[(109 : UInt8)]) (ByteArray.mk #[])))) true (Ob.cells true))))) true (Ob.cells true)) (rsN (Row.mk (List.take ((Int.toNat (Int.ofNat (List.length l)) - (0 : Nat)) * (2 : Nat)) (List.drop (0 : Nat) (rmC (Row.mk (List.take (List.length l * (2 : Nat)) (List.drop (0 : Nat) (gC enF l))) true (Ob.cells true)) (ByteArray.mk #[(109 : UInt8)]) (ByteArray.mk #[])))) true (Ob.cells true))) ∧ (IsF (Row.mk (List.take (rsN (Row.mk (List.take (List.length l * (2 : Nat)) (List.drop (0 : Nat) (gC enF l))) true (Ob.cells true)) * (2 : Nat)) (List.drop (0 : Nat) (rsC (Row.mk (List.take (List.length l * (2 : Nat)) (List.drop (0 : Nat) (gC enF l))) true (Ob.cells true))))) true (Ob.cells true)) (rsN (Row.mk (List.take (List.length l * (2 : Nat)) (List.drop (0 : Nat) (gC enF l))) true (Ob.cells true))) ∧ rsN (Row.mk (List.take ((Int.toNat (Int.ofNat (List.length l)) - (0 : Nat)) * (2 : Nat)) (List.drop (0 : Nat) (rmC (Row.mk (List.take (List.length l * (2 : Nat)) (List.drop (0 : Nat) (gC enF l))) true (Ob.cells true)) (ByteArray.mk #[(109 : UInt8)]) (ByteArray.mk #[])))) true (Ob.cells true)) ≤ (9223372036854775807 : Nat))))))) ∧
       (br (!rsE (rsS (Row.mk (List.take ((Int.toNat (Int.ofNat (List.length l)) - (0 : Nat)) * (2 : Nat)) (List.drop (0 : Nat) (rmC (Row.mk (List.take (List.length l * (2 : Nat)) (List.drop (0 : Nat) (gC enF l))) true (Ob.cells true)) (ByteArray.mk #[(109 : UInt8)]) (ByteArray.mk #[])))) true (Ob.cells true))) (rsS (Row.mk (List.take (List.length l * (2 : Nat)) (List.drop (0 : Nat) (gC enF l))) true (Ob.cells true))) (rsK (Row.mk (List.take ((Int.toNat (Int.ofNat (List.length l)) - (0 : Nat)) * (2 : Nat)) (List.drop (0 : Nat) (rmC (Row.mk (List.take (List.length l * (2 : Nat)) (List.drop (0 : Nat) (gC enF l))) true (Ob.cells true)) (ByteArray.mk #[(109 : UInt8)]) (ByteArray.mk #[])))) true (Ob.cells true))) (rsK (Row.mk (List.take (List.length l * (2 : Nat)) (List.drop (0 : Nat) (gC enF l))) true (Ob.cells true))) (Row.mk (List.take (rsN (Row.mk (List.take ((Int.toNat (Int.ofNat (List.length l)) - (0 : Nat)) * (2 : Nat)) (List.drop (0 : Nat) (rmC (Row.mk (List.take (List.length l * (2 : Nat)) (List.drop (0 : Nat) (gC enF l))) true (Ob.cells true)) (ByteArray.mk #[(109 : UInt8)]) (ByteArray.mk #[])))) true (Ob.cells true)) * (2 : Nat)) (List.drop (0 : Nat) (rsC (Row.mk (List.take ((Int.toNat (Int.ofNat (List.length l)) - (0 : Nat)) * (2 : Nat)) (List.drop (0 : Nat) (rmC (Row.mk (List.take (List.length l * (2 : Nat)) (List.drop (0 : Nat) (gC enF l))) true (Ob.cells true)) (ByteArray.mk #[(109 : UInt8)]) (ByteArray.mk #[])))) true (Ob.cells true))))) true (Ob.cells true)) (Row.mk (List.take (rsN (Row.mk (List.take (List.length l * (2 : Nat)) (List.drop (0 : Nat) (gC enF l))) true (Ob.cells true)) * (2 : Nat)) (List.drop (0 : Nat) (rsC (Row.mk (List.take (List.length l * (2 : Nat)) (List.drop (0 : Nat) (gC enF l))) true (Ob.cells true))))) true (Ob.cells true)))
        ((true = false) ∧
        ((Eq (α := List Value) (gC enF l) (gC enF l)) ∧
        ((Plain (gC enF l)) ∧
        True)))
        ((((((0 : Nat) + (Int.toNat (Int.ofNat (List.length l)) - (0 : Nat)) * (2 : Nat) ≤ List.length (rmC (Row.mk (List.take (List.length l * (2 : Nat)) (List.drop (0 : Nat) (gC enF l))) true (Ob.cells true)) (ByteArray.mk #[(109 : UInt8)]) (ByteArray.mk #[])) ∧ Plain (List.take ((Int.toNat (Int.ofNat (List.length l)) - (0 : Nat)) * (2 : Nat)) (List.drop (0 : Nat) (rmC (Row.mk (List.take (List.length l * (2 : Nat)) (List.drop (0 : Nat) (gC enF l))) true (Ob.cells true)) (ByteArray.mk #[(109 : UInt8)]) (ByteArray.mk #[]))))) ∧ True) ∧ ((True ∧ True) ∧ (True ∧ (IsF (Row.mk (List.take ((Int.toNat (Int.ofNat (List.length l)) - (0 : Nat)) * (2 : Nat)) (List.drop (0 : Nat) (rmC (Row.mk (List.take (List.length l * (2 : Nat)) (List.drop (0 : Nat) (gC enF l))) true (Ob.cells true)) (ByteArray.mk #[(109 : UInt8)]) (ByteArray.mk #[])))) true (Ob.cells true)) (Int.toNat (Int.ofNat (List.length l)) - (0 : Nat)) ∧ (Int.toNat (Int.ofNat (List.length l)) - (0 : Nat) ≤ (9223372036854775807 : Nat) ∧ ShR (Row.mk (List.take ((Int.toNat (Int.ofNat (List.length l)) - (0 : Nat)) * (2 : Nat)) (List.drop (0 : Nat) (rmC (Row.mk (List.take (List.length l * (2 : Nat)) (List.drop (0 : Nat) (gC enF l))) true (Ob.cells true)) (ByteArray.mk #[(109 : UInt8)]) (ByteArray.mk #[])))) true (Ob.cells true)))))))) ∧
        (br (psR (Row.mk (List.take (List.length l * (2 : Nat)) (List.drop (0 : Nat) (gC enF l))) true (Ob.cells true)) == (0 : Int))
         ((((((0 : Nat) + List.length l * (2 : Nat) ≤ List.length (gC enF l) ∧ Plain (List.take (List.length l * (2 : Nat)) (List.drop (0 : Nat) (gC enF l)))) ∧ True) ∧ ((True ∧ True) ∧ (True ∧ (IsF (Row.mk (List.take (List.length l * (2 : Nat)) (List.drop (0 : Nat) (gC enF l))) true (Ob.cells true)) (List.length l) ∧ (List.length l ≤ (9223372036854775807 : Nat) ∧ ShR (Row.mk (List.take (List.length l * (2 : Nat)) (List.drop (0 : Nat) (gC enF l))) true (Ob.cells true)))))))) ∧
         (br (!plR (Row.mk (List.take ((Int.toNat (Int.ofNat (List.length l)) - (0 : Nat)) * (2 : Nat)) (List.drop (0 : Nat) (rmC (Row.mk (List.take (List.length l * (2 : Nat)) (List.drop (0 : Nat) (gC enF l))) true (Ob.cells true)) (ByteArray.mk #[(109 : UInt8)]) (ByteArray.mk #[])))) true (Ob.cells true)) == plR (Row.mk (List.take (List.length l * (2 : Nat)) (List.drop (0 : Nat) (gC enF l))) true (Ob.cells true)))
          ((true = false) ∧
          ((Eq (α := List Value) (gC enF l) (gC enF l)) ∧
          ((Plain (gC enF l)) ∧
          True)))
          (∃ g : GMs, ((List.length g.5 ≤ (16777000 : Nat)) ∧
          (((0 : Nat) = (0 : Nat)) ∧
          ((List.length g.1 = List.length l) ∧
          (((0 : Nat) = (0 : Nat)) ∧
          ((List.length g.2 = List.length l + (80 : Nat)) ∧
          (((0 : Nat) = (0 : Nat)) ∧
          (((0 : Int) = (0 : Int)) ∧
          ((Eq (α := List Value) (gC enF g.1) (gC enF l)) ∧
          ((Plain (gC enF g.1)) ∧
          ((Eq (α := List Value) (gC enF g.2) (rmC (Row.mk (List.take (List.length l * (2 : Nat)) (List.drop (0 : Nat) (gC enF l))) true (Ob.cells true)) (ByteArray.mk #[(109 : UInt8)]) (ByteArray.mk #[]))) ∧
          ((Plain (gC enF g.2)) ∧
          ((bs g.3.1 = rqM (Row.mk (List.take ((Int.toNat (Int.ofNat (List.length l)) - (0 : Nat)) * (2 : Nat)) (List.drop (0 : Nat) (rmC (Row.mk (List.take (List.length l * (2 : Nat)) (List.drop (0 : Nat) (gC enF l))) true (Ob.cells true)) (ByteArray.mk #[(109 : UInt8)]) (ByteArray.mk #[])))) true (Ob.cells true))) ∧
          ((bs g.3.2 = rqS (Row.mk (List.take ((Int.toNat (Int.ofNat (List.length l)) - (0 : Nat)) * (2 : Nat)) (List.drop (0 : Nat) (rmC (Row.mk (List.take (List.length l * (2 : Nat)) (List.drop (0 : Nat) (gC enF l))) true (Ob.cells true)) (ByteArray.mk #[(109 : UInt8)]) (ByteArray.mk #[])))) true (Ob.cells true))) ∧
          ((bs g.3.3 = rqA (Row.mk (List.take ((Int.toNat (Int.ofNat (List.length l)) - (0 : Nat)) * (2 : Nat)) (List.drop (0 : Nat) (rmC (Row.mk (List.take (List.length l * (2 : Nat)) (List.drop (0 : Nat) (gC enF l))) true (Ob.cells true)) (ByteArray.mk #[(109 : UInt8)]) (ByteArray.mk #[])))) true (Ob.cells true))) ∧
          ((bs g.3.4 = rqP (Row.mk (List.take ((Int.toNat (Int.ofNat (List.length l)) - (0 : Nat)) * (2 : Nat)) (List.drop (0 : Nat) (rmC (Row.mk (List.take (List.length l * (2 : Nat)) (List.drop (0 : Nat) (gC enF l))) true (Ob.cells true)) (ByteArray.mk #[(109 : UInt8)]) (ByteArray.mk #[])))) true (Ob.cells true))) ∧
          (((0 : Nat) = (0 : Nat)) ∧
          ((List.length g.5 = rqN (Row.mk (List.take ((Int.toNat (Int.ofNat (List.length l)) - (0 : Nat)) * (2 : Nat)) (List.drop (0 : Nat) (rmC (Row.mk (List.take (List.length l * (2 : Nat)) (List.drop (0 : Nat) (gC enF l))) true (Ob.cells true)) (ByteArray.mk #[(109 : UInt8)]) (ByteArray.mk #[])))) true (Ob.cells true))) ∧
          ((g.4 = rqK (Row.mk (List.take ((Int.toNat (Int.ofNat (List.length l)) - (0 : Nat)) * (2 : Nat)) (List.drop (0 : Nat) (rmC (Row.mk (List.take (List.length l * (2 : Nat)) (List.drop (0 : Nat) (gC enF l))) true (Ob.cells true)) (ByteArray.mk #[(109 : UInt8)]) (ByteArray.mk #[])))) true (Ob.cells true))) ∧
          ((Eq (α := List Value) (gC enF (trn g.5 (0 : Nat))) (rqC (Row.mk (List.take ((Int.toNat (Int.ofNat (List.length l)) - (0 : Nat)) * (2 : Nat)) (List.drop (0 : Nat) (rmC (Row.mk (List.take (List.length l * (2 : Nat)) (List.drop (0 : Nat) (gC enF l))) true (Ob.cells true)) (ByteArray.mk #[(109 : UInt8)]) (ByteArray.mk #[])))) true (Ob.cells true)))) ∧
          ((Plain (gC enF (trn g.5 (0 : Nat)))) ∧
          (∀ (y : Unit), ((True) →
          ((((((0 : Nat) + List.length g.2 * (2 : Nat) ≤ List.length (gC enF g.2) ∧ Plain (List.take (List.length g.2 * (2 : Nat)) (List.drop (0 : Nat) (gC enF g.2)))) ∧ (((0 : Nat) + List.length g.1 * (2 : Nat) ≤ List.length (gC enF g.1) ∧ Plain (List.take (List.length g.1 * (2 : Nat)) (List.drop (0 : Nat) (gC enF g.1)))) ∧ ((True ∧ (True ∧ True)) ∧ True))) ∧ ((True ∧ (True ∧ True)) ∧ (True ∧ (IsF (Row.mk (List.take (List.length g.2 * (2 : Nat)) (List.drop (0 : Nat) (gC enF g.2))) true (Ob.cells true)) (List.length g.2) ∧ (IsF (Row.mk (List.take (List.length g.1 * (2 : Nat)) (List.drop (0 : Nat) (gC enF g.1))) true (Ob.cells true)) (List.length g.1) ∧ (List.length g.2 ≤ (9223372036854775807 : Nat) ∧ List.length g.1 ≤ (16777000 : Nat)))))))) ∧
          (br (inB (Row.mk (List.take (List.length g.2 * (2 : Nat)) (List.drop (0 : Nat) (gC enF g.2))) true (Ob.cells true)) (Row.mk (List.take (List.length g.1 * (2 : Nat)) (List.drop (0 : Nat) (gC enF g.1))) true (Ob.cells true)) (ByteArray.mk #[(109 : UInt8)]) (ByteArray.mk #[]))
           (((True ∧ (True ∧ (True ∧ True)))) ∧
           ((true = true) ∧
           ((Eq (α := List Value) (gC enF l) (gC enF g.1)) ∧
           ((Plain (gC enF l)) ∧
           True))))
           ((true = false) ∧
           ((Eq (α := List Value) (gC enF l) (gC enF g.1)) ∧
           ((Plain (gC enF l)) ∧
           True))))))))))))))))))))))))))))))
         (br (!plR (Row.mk (List.take ((Int.toNat (Int.ofNat (List.length l)) - (0 : Nat)) * (2 : Nat)) (List.drop (0 : Nat) (rmC (Row.mk (List.take (List.length l * (2 : Nat)) (List.drop (0 : Nat) (gC enF l))) true (Ob.cells true)) (ByteArray.mk #[(109 : UInt8)]) (ByteArray.mk #[])))) true (Ob.cells true)) == false)
          ((true = false) ∧
          ((Eq (α := List Value) (gC enF l) (gC enF l)) ∧
          ((Plain (gC enF l)) ∧
          True)))
          (∃ g : GMs, ((List.length g.5 ≤ (16777000 : Nat)) ∧
          (((0 : Nat) = (0 : Nat)) ∧
          ((List.length g.1 = List.length l) ∧
          (((0 : Nat) = (0 : Nat)) ∧
          ((List.length g.2 = List.length l + (80 : Nat)) ∧
          (((0 : Nat) = (0 : Nat)) ∧
          (((0 : Int) = (0 : Int)) ∧
          ((Eq (α := List Value) (gC enF g.1) (gC enF l)) ∧
          ((Plain (gC enF g.1)) ∧
          ((Eq (α := List Value) (gC enF g.2) (rmC (Row.mk (List.take (List.length l * (2 : Nat)) (List.drop (0 : Nat) (gC enF l))) true (Ob.cells true)) (ByteArray.mk #[(109 : UInt8)]) (ByteArray.mk #[]))) ∧
          ((Plain (gC enF g.2)) ∧
          ((bs g.3.1 = rqM (Row.mk (List.take ((Int.toNat (Int.ofNat (List.length l)) - (0 : Nat)) * (2 : Nat)) (List.drop (0 : Nat) (rmC (Row.mk (List.take (List.length l * (2 : Nat)) (List.drop (0 : Nat) (gC enF l))) true (Ob.cells true)) (ByteArray.mk #[(109 : UInt8)]) (ByteArray.mk #[])))) true (Ob.cells true))) ∧
          ((bs g.3.2 = rqS (Row.mk (List.take ((Int.toNat (Int.ofNat (List.length l)) - (0 : Nat)) * (2 : Nat)) (List.drop (0 : Nat) (rmC (Row.mk (List.take (List.length l * (2 : Nat)) (List.drop (0 : Nat) (gC enF l))) true (Ob.cells true)) (ByteArray.mk #[(109 : UInt8)]) (ByteArray.mk #[])))) true (Ob.cells true))) ∧
          ((bs g.3.3 = rqA (Row.mk (List.take ((Int.toNat (Int.ofNat (List.length l)) - (0 : Nat)) * (2 : Nat)) (List.drop (0 : Nat) (rmC (Row.mk (List.take (List.length l * (2 : Nat)) (List.drop (0 : Nat) (gC enF l))) true (Ob.cells true)) (ByteArray.mk #[(109 : UInt8)]) (ByteArray.mk #[])))) true (Ob.cells true))) ∧
          ((bs g.3.4 = rqP (Row.mk (List.take ((Int.toNat (Int.ofNat (List.length l)) - (0 : Nat)) * (2 : Nat)) (List.drop (0 : Nat) (rmC (Row.mk (List.take (List.length l * (2 : Nat)) (List.drop (0 : Nat) (gC enF l))) true (Ob.cells true)) (ByteArray.mk #[(109 : UInt8)]) (ByteArray.mk #[])))) true (Ob.cells true))) ∧
          (((0 : Nat) = (0 : Nat)) ∧
          ((List.length g.5 = rqN (Row.mk (List.take ((Int.toNat (Int.ofNat (List.length l)) - (0 : Nat)) * (2 : Nat)) (List.drop (0 : Nat) (rmC (Row.mk (List.take (List.length l * (2 : Nat)) (List.drop (0 : Nat) (gC enF l))) true (Ob.cells true)) (ByteArray.mk #[(109 : UInt8)]) (ByteArray.mk #[])))) true (Ob.cells true))) ∧
          ((g.4 = rqK (Row.mk (List.take ((Int.toNat (Int.ofNat (List.length l)) - (0 : Nat)) * (2 : Nat)) (List.drop (0 : Nat) (rmC (Row.mk (List.take (List.length l * (2 : Nat)) (List.drop (0 : Nat) (gC enF l))) true (Ob.cells true)) (ByteArray.mk #[(109 : UInt8)]) (ByteArray.mk #[])))) true (Ob.cells true))) ∧
          ((Eq (α := List Value) (gC enF (trn g.5 (0 : Nat))) (rqC (Row.mk (List.take ((Int.toNat (Int.ofNat (List.length l)) - (0 : Nat)) * (2 : Nat)) (List.drop (0 : Nat) (rmC (Row.mk (List.take (List.length l * (2 : Nat)) (List.drop (0 : Nat) (gC enF l))) true (Ob.cells true)) (ByteArray.mk #[(109 : UInt8)]) (ByteArray.mk #[])))) true (Ob.cells true)))) ∧
          ((Plain (gC enF (trn g.5 (0 : Nat)))) ∧
          (∀ (y : Unit), ((True) →
          ((((((0 : Nat) + List.length g.2 * (2 : Nat) ≤ List.length (gC enF g.2) ∧ Plain (List.take (List.length g.2 * (2 : Nat)) (List.drop (0 : Nat) (gC enF g.2)))) ∧ (((0 : Nat) + List.length g.1 * (2 : Nat) ≤ List.length (gC enF g.1) ∧ Plain (List.take (List.length g.1 * (2 : Nat)) (List.drop (0 : Nat) (gC enF g.1)))) ∧ ((True ∧ (True ∧ True)) ∧ True))) ∧ ((True ∧ (True ∧ True)) ∧ (True ∧ (IsF (Row.mk (List.take (List.length g.2 * (2 : Nat)) (List.drop (0 : Nat) (gC enF g.2))) true (Ob.cells true)) (List.length g.2) ∧ (IsF (Row.mk (List.take (List.length g.1 * (2 : Nat)) (List.drop (0 : Nat) (gC enF g.1))) true (Ob.cells true)) (List.length g.1) ∧ (List.length g.2 ≤ (9223372036854775807 : Nat) ∧ List.length g.1 ≤ (16777000 : Nat)))))))) ∧
          (br (inB (Row.mk (List.take (List.length g.2 * (2 : Nat)) (List.drop (0 : Nat) (gC enF g.2))) true (Ob.cells true)) (Row.mk (List.take (List.length g.1 * (2 : Nat)) (List.drop (0 : Nat) (gC enF g.1))) true (Ob.cells true)) (ByteArray.mk #[(109 : UInt8)]) (ByteArray.mk #[]))
           (((True ∧ (True ∧ (True ∧ True)))) ∧
           ((true = true) ∧
           ((Eq (α := List Value) (gC enF l) (gC enF g.1)) ∧
           ((Plain (gC enF l)) ∧
           True))))
           ((true = false) ∧
           ((Eq (α := List Value) (gC enF l) (gC enF g.1)) ∧
           ((Plain (gC enF l)) ∧
           True))))))))))))))))))))))))))))))))))))))))))
    False)))) := by kernel_rfl
theorem eMsRuns_ok : EntOk Try.prog eMsRuns := entC_ok (by
  intro a rows p v news h hp
  split at h <;> simp only [Option.some.injEq, Prod.mk.injEq, reduceCtorEq] at h
  obtain ⟨rfl, rfl, rfl⟩ := h
  exact con_run mixed (n := 1000000) (by kernel_rfl) (by kernel_rfl))
theorem tMs_ok : ∀ x ∈ tMs, EntOk Try.prog x := all_cons eL3_ok (all_cons eRoom_ok (all_cons eInt_ok (all_cons eRq_ok (all_cons eRs_ok (all_cons eRr_ok (all_cons eRp_ok (all_cons eRba_ok (all_cons ePl_ok (all_cons eRpl_ok (all_cons eRqE_ok (all_cons eRsE_ok (all_cons eMsRuns_ok (all_nil)))))))))))))
theorem Ms_piece : PieceOk EtMs 1 (4, pMs, specMs) := by
  refine piece_loop mixed (calls_envT tMs_ok) (lok_envT _ _) lm_none (n := 60) (by kernel_rfl) (fun _ : GMs => (0 : Nat)) (fun g i => i ≤ g.c.length) (fun g i => g.c.length - i) (sl := slMs) (rl := rlMs) (fun g hg => Nat.zero_le _) (fun g i hg hi => ?_)
  refine (Ms_round g i _ _).mpr ?_
  have hg' : g.c.length ≤ 16777000 := hg
  simp only [ofNat_eq, toNat_cast, Nat.zero_add, Nat.add_zero, Nat.mul_one, List.drop_zero, bCells_len, bCells_drop, bCells_take, bCells_app, bCells_one, bCells_plain, List.length_replicate, List.length_append, List.length_take, List.length_drop, List.take_length, and_true, true_and, and_self, decide_true, List.length_nil, List.length_cons, Nat.sub_zero, dB_mk, dB_ro, List.take_zero, fPl, fLen, trn_len g.c i hi]
  exact br_if (fun h => br_dec (by omega) (br_dec (by omega) ⟨i + 1, by omega, by omega, (i64_succ (by omega)).symm, (trn_ovr _ _ (by omega)).symm⟩)) (fun h => ⟨(), trivial⟩)
theorem n_rqC (l : List Fl) (b : Bool) (o : Ob) : rqC ⟨gC enF l, b, o⟩ = gC enF (rqZ (rqL l)).f := by unfold rqC; simp only; rw [decF_gC]
theorem n_rqN (l : List Fl) (b : Bool) (o : Ob) : rqN ⟨gC enF l, b, o⟩ = (rqZ (rqL l)).f.length := by unfold rqN; simp only; rw [decF_gC]
theorem n_rsC (l : List Fl) (b : Bool) (o : Ob) : rsC ⟨gC enF l, b, o⟩ = gC enF (rsZ (rsL l)).f := by unfold rsC; simp only; rw [decF_gC]
theorem n_rsN (l : List Fl) (b : Bool) (o : Ob) : rsN ⟨gC enF l, b, o⟩ = (rsZ (rsL l)).f.length := by unfold rsN; simp only; rw [decF_gC]
theorem n_rqB (l : List Fl) (b : Bool) (o : Ob) : rqB ⟨gC enF l, b, o⟩ = (rqL l).isSome := by unfold rqB; simp only; rw [decF_gC]
theorem n_rsB (l : List Fl) (b : Bool) (o : Ob) : rsB ⟨gC enF l, b, o⟩ = (rsL l).isSome := by unfold rsB; simp only; rw [decF_gC]
theorem n_rqM (l : List Fl) (b : Bool) (o : Ob) : rqM ⟨gC enF l, b, o⟩ = bs (rqZ (rqL l)).r.m := by unfold rqM; simp only; rw [decF_gC]
theorem n_rqS (l : List Fl) (b : Bool) (o : Ob) : rqS ⟨gC enF l, b, o⟩ = bs (rqZ (rqL l)).r.s := by unfold rqS; simp only; rw [decF_gC]
theorem n_rqA (l : List Fl) (b : Bool) (o : Ob) : rqA ⟨gC enF l, b, o⟩ = bs (rqZ (rqL l)).r.a := by unfold rqA; simp only; rw [decF_gC]
theorem n_rqP (l : List Fl) (b : Bool) (o : Ob) : rqP ⟨gC enF l, b, o⟩ = bs (rqZ (rqL l)).r.p := by unfold rqP; simp only; rw [decF_gC]
theorem n_rqK (l : List Fl) (b : Bool) (o : Ob) : rqK ⟨gC enF l, b, o⟩ = (rqZ (rqL l)).k := by unfold rqK; simp only; rw [decF_gC]
theorem n_rsS (l : List Fl) (b : Bool) (o : Ob) : rsS ⟨gC enF l, b, o⟩ = (rsZ (rsL l)).st := by unfold rsS; simp only; rw [decF_gC]
theorem n_rsK (l : List Fl) (b : Bool) (o : Ob) : rsK ⟨gC enF l, b, o⟩ = (rsZ (rsL l)).k := by unfold rsK; simp only; rw [decF_gC]
theorem rq_len (l : List Fl) : (rqZ (rqL l)).f.length ≤ l.length := by
  unfold rqL
  split
  · exact Nat.zero_le _
  · split
    · show (l.drop (psN l)).length ≤ l.length; simp
    · exact Nat.zero_le _
theorem rs_len (l : List Fl) : (rsZ (rsL l)).f.length ≤ l.length := by
  cases l with
  | nil => exact Nat.zero_le _
  | cons f r =>
    have hr : rsL (f :: r) = if f.n = sSta then (match digL f.v 3 3 with
      | none => none
      | some s => if stOk s && (plL r && !decide (lenL r = -2)) then some ⟨s, lenL r, r⟩ else none) else none := rfl
    rw [hr]
    by_cases hn : f.n = sSta
    · rw [if_pos hn]
      cases digL f.v 3 3 with
      | none => exact Nat.zero_le _
      | some m =>
        simp only
        split
        · show r.length ≤ (f :: r).length; simp
        · exact Nat.zero_le _
    · rw [if_neg hn]; exact Nat.zero_le _
theorem ps_pl (l : List Fl) (h : psN l ≠ 0) : plL l = false := by
  cases l with
  | nil => exact absurd rfl h
  | cons f r =>
    have hc : colB f.n = true := by
      cases hb : colB f.n with
      | true => rfl
      | false => exact absurd (by unfold psN; rw [List.takeWhile_cons, if_neg (by simp [hb])]; rfl) h
    unfold plL plF
    rw [List.all_cons, col_no _ hc]; rfl
set_option maxHeartbeats 1000000 in
theorem ms_tells (l : List Fl) (h : l.length ≤ 1048576) (hs : ∀ f ∈ l, f.n.length ≤ 1048576 ∧ f.v.length ≤ 1048576) : Con Try.prog 4 [.slice (some ⟨0, 0, none⟩) l.length 2] [gRo enF l] (.bool true) [gRo enF l] := by
  refine con_vc (E := EtMs) mixed (calls_envT tMs_ok) (lok_envT _ _) (M := mMs) (lm_one Ms_piece) (Ms_vc l) ?_
  have hm : maxLen = 9223372036854775807 := by unfold maxLen; rfl
  have ss : ShortF l := hs
  have z1 := rq_len l
  have z2 := rs_len l
  simp only [ofNat_eq, toNat_cast, Nat.zero_add, Nat.add_zero, Nat.mul_one, List.drop_zero, bCells_len, bCells_drop, bCells_take, bCells_app, bCells_one, bCells_plain, List.length_replicate, List.length_append, List.length_take, List.length_drop, List.take_length, and_true, true_and, and_self, decide_true, List.length_nil, List.length_cons, Nat.sub_zero, dB_mk, dB_ro, List.take_zero, bs_dd, fTake, fPl, fLen, isF_eq, gPl, n_lg3, n_sh, n_rmC, tkF, n_in, n_pl, n_ps, n_rqC, n_rqN, n_rqB, n_rqM, n_rqS, n_rqA, n_rqP, n_rqK, n_rsC, n_rsN, n_rsB, n_rsS, n_rsK, rqF, rqE, rsE, saB_mk, sameSe_self, strEq_me, hm, ss, Nat.le_refl, and_true, true_and, beq_self_eq_true, Bool.and_self, Bool.not_true, br_ff0]
  have fin : ∃ g : GMs, g.c.length ≤ 16777000 ∧ g.l.length = l.length ∧ g.f.length = l.length + 80 ∧ gC enF g.l = gC enF l ∧ gC enF g.f = gC enF (l ++ List.replicate 80 ⟨L ⟨#[109]⟩, L ⟨#[]⟩⟩) ∧ bs g.r.m = bs (rqZ (rqL l)).r.m ∧ bs g.r.s = bs (rqZ (rqL l)).r.s ∧ bs g.r.a = bs (rqZ (rqL l)).r.a ∧ bs g.r.p = bs (rqZ (rqL l)).r.p ∧ g.c.length = (rqZ (rqL l)).f.length ∧ g.k = (rqZ (rqL l)).k ∧ gC enF (trn g.c 0) = gC enF (rqZ (rqL l)).f ∧ ∀ (y : Unit), True → (g.f.length ≤ 9223372036854775807 ∧ g.l.length ≤ 16777000) ∧ br (Go.Proofs.Yteodlmfnkjdhhaa.fb.sameSe g.f (g.l ++ List.replicate 80 ⟨L ⟨#[109]⟩, L ⟨#[]⟩⟩)) (gC enF l = gC enF g.l) (true = false ∧ gC enF l = gC enF g.l) :=
    ⟨⟨l, l ++ List.replicate 80 ⟨L ⟨#[109]⟩, L ⟨#[]⟩⟩, (rqZ (rqL l)).r, (rqZ (rqL l)).k, (rqZ (rqL l)).f⟩, by simp only; omega, rfl, by simp, rfl, rfl, rfl, rfl, rfl, rfl, rfl, rfl, rfl, fun _ _ => ⟨⟨by simp only [List.length_append, List.length_replicate]; omega, by simp only; omega⟩, br_b (sameSe_self _) rfl⟩⟩
  refine ⟨by omega, br_intro (fun _ => trivial) (fun hl => ⟨by omega, br_dec (by omega) ?_⟩)⟩
  refine ⟨by omega, by omega, by omega, by omega, by omega, by omega, by omega, by omega, br_intro (fun k => ⟨by omega, fin⟩) (fun k => ?_)⟩
  rw [ps_pl l (by simp at k; omega)]
  exact br_nb rfl fin
end Go.Proofs.Yteodlmfnkjdhhaa.tk
