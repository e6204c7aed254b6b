/- The law: two tables that are told the same are the same . -/
import Derived.Test.YtpfigiokmcojeaaSz9
import Derived.Test.YtpfigiokmcojeaaRows
import Derived.Test.YtpfigiokmcojeaaLtbH
import Derived.Test.YtpfigiokmcojeaaLwit
set_option linter.unusedSimpArgs false
set_option linter.unusedVariables false
namespace Go.Proofs.Ytpfigiokmcojeaa.tb
open Go Go.Ev Go.Sy Go.RowKit Go.Proofs.Ytpfigiokmcojeaa.gl Go.Proofs.Ytpfigiokmcojeaa.tk
structure Asx where
  k : Int
  n : Int
  f : Fl
def enA (a : Asx) : List Value := [.int .i64 a.k, .int .i64 a.n, .string (bs a.f.n), .string (bs a.f.v)]
noncomputable def eWiT : EntM := entC 24 fun a r => match a, r with
  | [.int .i64 n, .int .i64 lo, .int .i64 hi], [] => some (I64 n ∧ -1000000000000 ≤ lo ∧ hi ≤ 1000000000000 ∧ lo ≤ hi, .int .i64 (Go.Proofs.Ytpfigiokmcojeaa.tk.inside n lo hi), [])
  | _, _ => none
noncomputable def eRunsT : EntM := entC 3 fun a r => match a, r with
  | [], [] => some (True, .bool true, [])
  | _, _ => none
def pT1 : List Nat := [0, 1, 0, 1, 1, 1, 1, 1]
def pT2 : List Nat := [0, 1, 0, 1, 1, 1, 1, 1, 1]
structure GTw2 where
  t : Tb
  l : List Asx
structure GTw where
  l : List Asx
  m : Int
noncomputable def rwT (t : Tb) (a b : Nat) : List (Nat × Row) := [(a, ⟨[.slice (some ⟨a + 2, 0, none⟩) t.l.length 2, .int .i64 (smZ t.l t.l.length : Nat), .int .i64 t.most], false, .cells false⟩), (b, ⟨[.slice (some ⟨b + 2, 0, none⟩) t.l.length 2, .int .i64 (smZ t.l t.l.length : Nat), .int .i64 t.most], false, .cells false⟩), (a + 2, gOwn enF (t.l ++ t.j)), (b + 2, gOwn enF (t.l ++ t.j))]
def slT1 (g : GTw) (s : Nat × Tb) : List (Nat × Value) := [(1, .slice (some ⟨0, 0, none⟩) g.l.length 4), (6, .pointer (some ⟨1, 0, none⟩)), (8, .pointer (some ⟨2, 0, none⟩)), (10, .int .i64 (s.1 : Nat))]
noncomputable def rlT1 (g : GTw) (s : Nat × Tb) : List (Nat × Row) := (0, gRo enA g.l) :: rwT s.2 1 2
noncomputable def wsT1 (g : GTw) : List (Gate Tb) := [⟨.exit 0, fun t => Ok t, fun _ => [(1, .slice (some ⟨0, 0, none⟩) g.l.length 4), (6, .pointer (some ⟨1, 0, none⟩)), (8, .pointer (some ⟨2, 0, none⟩))], fun t => (0, gRo enA g.l) :: rwT t 1 2, 5⟩]
noncomputable def specT1 : Sy.Spec := specOf 1 5 145 (fun g : GTw => (∀ a ∈ g.l, a.f.n.length ≤ 1048576 ∧ a.f.v.length ≤ 1048576) ∧ 0 ≤ g.m ∧ g.m ≤ 65536) (fun g => slT1 g (0, ⟨[], [], g.m⟩)) (fun g => rlT1 g (0, ⟨[], [], g.m⟩)) wsT1
def slT2 (g : GTw2) (k : Nat) : List (Nat × Value) := [(1, .slice (some ⟨0, 0, none⟩) g.l.length 4), (6, .pointer (some ⟨1, 0, none⟩)), (8, .pointer (some ⟨2, 0, none⟩)), (11, .int .i64 ((k + 62 : Nat) : Int))]
noncomputable def wsT2 (g : GTw2) : List (Gate Unit) := [⟨.exit 2, fun _ => True, fun _ => [(1, .slice (some ⟨0, 0, none⟩) g.l.length 4)], fun _ => [(0, gRo enA g.l)], 5⟩]
noncomputable def specT2 : Sy.Spec := specOf 1 5 145 (fun g : GTw2 => Ok g.t) (fun g => slT2 g 0) (fun g => (0, gRo enA g.l) :: rwT g.t 1 2) wsT2
noncomputable def mTw := mOf [(6, pT1, specT1), (6, pT2, specT2)]
noncomputable def tTw : List EntM := [eWiT, eRunsT, eAddT, eResT, eGetT]
noncomputable abbrev EtTw : Env := envT Try.prog tTw
theorem T1_round (g : GTw) (s : Nat × Tb) (Inv : Nat × Tb → Prop) (m : Nat × Tb → Nat) : mev EtTw noM 60 6 (0 :: pT1) false (codeOf Try.prog 6 (0 :: pT1)) ⟨mkOv (slT1 g s), 145, []⟩ none ⟨mkR (rlT1 g s), 5⟩ (roundK 1 5 145 Inv m (slT1 g) (rlT1 g) (wsT1 g) s) =
  (br (decide ((↑s.1 : Int) < Int.ofNat (List.length g.1)))
   (br (decide ((↑s.1 : Int) < (60 : Int)))
    (br (decide ((0 : Int) ≤ (↑s.1 : Int) ∧ (↑s.1 : Int) < (↑(List.length g.1) : Int)))
     ((Eq (α := Option Value) ((gC enA g.1)[(0 : Nat) + Int.toNat (↑s.1 : Int) * (4 : Nat) + (2 : Nat) + (0 : Nat)]?) (some (Value.string (cellS (gC enA g.1) ((0 : Nat) + Int.toNat (↑s.1 : Int) * (4 : Nat) + (2 : Nat) + (0 : Nat)))))) ∧
     (br (decide ((0 : Int) ≤ (↑s.1 : Int) ∧ (↑s.1 : Int) < (↑(List.length g.1) : Int)))
      ((Eq (α := Option Value) ((gC enA g.1)[(0 : Nat) + Int.toNat (↑s.1 : Int) * (4 : Nat) + (2 : Nat) + (1 : Nat)]?) (some (Value.string (cellS (gC enA g.1) ((0 : Nat) + Int.toNat (↑s.1 : Int) * (4 : Nat) + (2 : Nat) + (1 : Nat)))))) ∧
      ((Eq (α := Option Value) ((gC enA g.1)[(0 : Nat) + Int.toNat (↑s.1 : Int) * (4 : Nat) + (2 : Nat) + (0 : Nat)]?) (some (Value.string (cellS (gC enA g.1) ((0 : Nat) + Int.toNat (↑s.1 : Int) * (4 : Nat) + (2 : Nat) + (0 : Nat)))))) ∧
      ((Value.string (cellS (gC enA g.1) ((0 : Nat) + Int.toNat (↑s.1 : Int) * (4 : Nat) + (2 : Nat) + (0 : Nat))) = Value.string (cellS (gC enA g.1) ((0 : Nat) + Int.toNat (↑s.1 : Int) * (4 : Nat) + (2 : Nat) + (0 : Nat)))) ∧
      ((Eq (α := Option Value) ((gC enA g.1)[(0 : Nat) + Int.toNat (↑s.1 : Int) * (4 : Nat) + (2 : Nat) + (1 : Nat)]?) (some (Value.string (cellS (gC enA g.1) ((0 : Nat) + Int.toNat (↑s.1 : Int) * (4 : Nat) + (2 : Nat) + (1 : Nat)))))) ∧
      ((Value.string (cellS (gC enA g.1) ((0 : Nat) + Int.toNat (↑s.1 : Int) * (4 : Nat) + (2 : Nat) + (1 : Nat))) = Value.string (cellS (gC enA g.1) ((0 : Nat) + Int.toNat (↑s.1 : Int) * (4 : Nat) + (2 : Nat) + (1 : Nat)))) ∧
      (br (decide (IntKind.wrap IntKind.i64 (Int.ofNat (List.length (Array.toList (ByteArray.data (cellS (gC enA g.1) ((0 : Nat) + Int.toNat (↑s.1 : Int) * (4 : Nat) + (2 : Nat) + (0 : Nat)))))) + Int.ofNat (List.length (Array.toList (ByteArray.data (cellS (gC enA g.1) ((0 : Nat) + Int.toNat (↑s.1 : Int) * (4 : Nat) + (2 : Nat) + (1 : Nat))))))) > (1000 : Int)))
       (∃ j : Nat × Tb, ((Inv j) ∧
       ((m j < m s) ∧
       (((0 : Nat) = (0 : Nat)) ∧
       ((List.length g.1 = List.length g.1) ∧
       (((0 : Nat) = (0 : Nat)) ∧
       (((0 : Nat) = (0 : Nat)) ∧
       (((↑j.1 : Int) = IntKind.wrap IntKind.i64 ((↑s.1 : Int) + (1 : Int))) ∧
       ((Eq (α := List Value) (gC enA g.1) (gC enA g.1)) ∧
       ((Plain (gC enA g.1)) ∧
       (((0 : Nat) = (0 : Nat)) ∧
       ((List.length j.2.1 = List.length s.2.1) ∧
       (((↑(smZ j.2.1 (List.length j.2.1)) : Int) = (↑(smZ s.2.1 (List.length s.2.1)) : Int)) ∧
       ((j.2.3 = s.2.3) ∧
       (((0 : Nat) = (0 : Nat)) ∧
       ((List.length j.2.1 = List.length s.2.1) ∧
       (((↑(smZ j.2.1 (List.length j.2.1)) : Int) = (↑(smZ s.2.1 (List.length s.2.1)) : Int)) ∧
       ((j.2.3 = s.2.3) ∧
       ((Eq (α := List Value) (gC enF (j.2.1 ++ j.2.2)) (gC enF (s.2.1 ++ s.2.2))) ∧
       ((Plain (gC enF (j.2.1 ++ j.2.2))) ∧
       ((Eq (α := List Value) (gC enF (j.2.1 ++ j.2.2)) (gC enF (s.2.1 ++ s.2.2))) ∧
       ((Plain (gC enF (j.2.1 ++ j.2.2))) ∧
       True))))))))))))))))))))))
       (br (decide ((0 : Int) ≤ (↑s.1 : Int) ∧ (↑s.1 : Int) < (↑(List.length g.1) : Int)))
        ((Eq (α := Option Value) ((gC enA g.1)[(0 : Nat) + Int.toNat (↑s.1 : Int) * (4 : Nat) + (0 : Nat)]?) (some (Value.int IntKind.i64 (cellI (gC enA g.1) ((0 : Nat) + Int.toNat (↑s.1 : Int) * (4 : Nat) + (0 : Nat)))))) ∧
        (br (cellI (gC enA g.1) ((0 : Nat) + Int.toNat (↑s.1 : Int) * (4 : Nat) + (0 : Nat)) == (2 : Int))
         (br (decide ((0 : Int) ≤ (↑s.1 : Int) ∧ (↑s.1 : Int) < (↑(List.length g.1) : Int)))
          ((Eq (α := Option Value) ((gC enA g.1)[(0 : Nat) + Int.toNat (↑s.1 : Int) * (4 : Nat) + (1 : Nat)]?) (some (Value.int IntKind.i64 (cellI (gC enA g.1) ((0 : Nat) + Int.toNat (↑s.1 : Int) * (4 : Nat) + (1 : Nat)))))) ∧
          ((((True ∧ (True ∧ True)) ∧ (((True ∧ (True ∧ (True ∧ True))) ∧ (Plain (gC enF (s.2.1 ++ s.2.2)) ∧ True)) ∧ ((Plain (rsC (Row.mk (gC enF (s.2.1 ++ s.2.2)) false (Ob.cells true)) (List.length s.2.1) s.2.3 (cellI (gC enA g.1) ((0 : Nat) + Int.toNat (↑s.1 : Int) * (4 : Nat) + (1 : Nat)))) ∧ True) ∧ IsTb (Row.mk (gC enF (s.2.1 ++ s.2.2)) false (Ob.cells true)) (List.length s.2.1) (↑(smZ s.2.1 (List.length s.2.1)) : Int))))) ∧
          (br (decide ((0 : Int) ≤ (↑s.1 : Int) ∧ (↑s.1 : Int) < (↑(List.length g.1) : Int)))
           ((Eq (α := Option Value) ((gC enA g.1)[(0 : Nat) + Int.toNat (↑s.1 : Int) * (4 : Nat) + (1 : Nat)]?) (some (Value.int IntKind.i64 (cellI (gC enA g.1) ((0 : Nat) + Int.toNat (↑s.1 : Int) * (4 : Nat) + (1 : Nat)))))) ∧
           ((((True ∧ (True ∧ True)) ∧ (((True ∧ (True ∧ (True ∧ True))) ∧ (Plain (gC enF (s.2.1 ++ s.2.2)) ∧ True)) ∧ ((Plain (rsC (Row.mk (gC enF (s.2.1 ++ s.2.2)) false (Ob.cells true)) (List.length s.2.1) s.2.3 (cellI (gC enA g.1) ((0 : Nat) + Int.toNat (↑s.1 : Int) * (4 : Nat) + (1 : Nat)))) ∧ True) ∧ IsTb (Row.mk (gC enF (s.2.1 ++ s.2.2)) false (Ob.cells true)) (List.length s.2.1) (↑(smZ s.2.1 (List.length s.2.1)) : Int))))) ∧
           ((((True ∧ (True ∧ True)) ∧ (((True ∧ (True ∧ (True ∧ True))) ∧ (Plain (rsC (Row.mk (gC enF (s.2.1 ++ s.2.2)) false (Ob.cells true)) (List.length s.2.1) s.2.3 (cellI (gC enA g.1) ((0 : Nat) + Int.toNat (↑s.1 : Int) * (4 : Nat) + (1 : Nat)))) ∧ True)) ∧ ((Plain (rsC (Row.mk (rsC (Row.mk (gC enF (s.2.1 ++ s.2.2)) false (Ob.cells true)) (List.length s.2.1) s.2.3 (cellI (gC enA g.1) ((0 : Nat) + Int.toNat (↑s.1 : Int) * (4 : Nat) + (1 : Nat)))) false (Ob.cells true)) (rsN (Row.mk (gC enF (s.2.1 ++ s.2.2)) false (Ob.cells true)) (List.length s.2.1) s.2.3 (cellI (gC enA g.1) ((0 : Nat) + Int.toNat (↑s.1 : Int) * (4 : Nat) + (1 : Nat)))) (rsM s.2.3 (cellI (gC enA g.1) ((0 : Nat) + Int.toNat (↑s.1 : Int) * (4 : Nat) + (1 : Nat)))) (rsM s.2.3 (cellI (gC enA g.1) ((0 : Nat) + Int.toNat (↑s.1 : Int) * (4 : Nat) + (1 : Nat))))) ∧ True) ∧ IsTb (Row.mk (rsC (Row.mk (gC enF (s.2.1 ++ s.2.2)) false (Ob.cells true)) (List.length s.2.1) s.2.3 (cellI (gC enA g.1) ((0 : Nat) + Int.toNat (↑s.1 : Int) * (4 : Nat) + (1 : Nat)))) false (Ob.cells true)) (rsN (Row.mk (gC enF (s.2.1 ++ s.2.2)) false (Ob.cells true)) (List.length s.2.1) s.2.3 (cellI (gC enA g.1) ((0 : Nat) + Int.toNat (↑s.1 : Int) * (4 : Nat) + (1 : Nat)))) (rsS (Row.mk (gC enF (s.2.1 ++ s.2.2)) false (Ob.cells true)) (List.length s.2.1) s.2.3 (cellI (gC enA g.1) ((0 : Nat) + Int.toNat (↑s.1 : Int) * (4 : Nat) + (1 : Nat)))))))) ∧
           (br (rsZ (rsM s.2.3 (cellI (gC enA g.1) ((0 : Nat) + Int.toNat (↑s.1 : Int) * (4 : Nat) + (1 : Nat)))) != (0 : Int))
            False
            (br (Int.ofNat (rsN (Row.mk (gC enF (s.2.1 ++ s.2.2)) false (Ob.cells true)) (List.length s.2.1) s.2.3 (cellI (gC enA g.1) ((0 : Nat) + Int.toNat (↑s.1 : Int) * (4 : Nat) + (1 : Nat)))) != Int.ofNat (rsN (Row.mk (rsC (Row.mk (gC enF (s.2.1 ++ s.2.2)) false (Ob.cells true)) (List.length s.2.1) s.2.3 (cellI (gC enA g.1) ((0 : Nat) + Int.toNat (↑s.1 : Int) * (4 : Nat) + (1 : Nat)))) false (Ob.cells true)) (rsN (Row.mk (gC enF (s.2.1 ++ s.2.2)) false (Ob.cells true)) (List.length s.2.1) s.2.3 (cellI (gC enA g.1) ((0 : Nat) + Int.toNat (↑s.1 : Int) * (4 : Nat) + (1 : Nat)))) (rsM s.2.3 (cellI (gC enA g.1) ((0 : Nat) + Int.toNat (↑s.1 : Int) * (4 : Nat) + (1 : Nat)))) (rsM s.2.3 (cellI (gC enA g.1) ((0 : Nat) + Int.toNat (↑s.1 : Int) * (4 : Nat) + (1 : Nat))))))
             False
             (∃ j : Nat × Tb, ((Inv j) ∧
             ((m j < m s) ∧
             (((0 : Nat) = (0 : Nat)) ∧
             ((List.length g.1 = List.length g.1) ∧
             (((0 : Nat) = (0 : Nat)) ∧
             (((0 : Nat) = (0 : Nat)) ∧
             (((↑j.1 : Int) = IntKind.wrap IntKind.i64 ((↑s.1 : Int) + (1 : Int))) ∧
             ((Eq (α := List Value) (gC enA g.1) (gC enA g.1)) ∧
             ((Plain (gC enA g.1)) ∧
             (((0 : Nat) = (0 : Nat)) ∧
             ((List.length j.2.1 = rsN (Row.mk (gC enF (s.2.1 ++ s.2.2)) false (Ob.cells true)) (List.length s.2.1) s.2.3 (cellI (gC enA g.1) ((0 : Nat) + Int.toNat (↑s.1 : Int) * (4 : Nat) + (1 : Nat)))) ∧
             (((↑(smZ j.2.1 (List.length j.2.1)) : Int) = rsS (Row.mk (gC enF (s.2.1 ++ s.2.2)) false (Ob.cells true)) (List.length s.2.1) s.2.3 (cellI (gC enA g.1) ((0 : Nat) + Int.toNat (↑s.1 : Int) * (4 : Nat) + (1 : Nat)))) ∧
             ((j.2.3 = rsM s.2.3 (cellI (gC enA g.1) ((0 : Nat) + Int.toNat (↑s.1 : Int) * (4 : Nat) + (1 : Nat)))) ∧
             (((0 : Nat) = (0 : Nat)) ∧
             ((List.length j.2.1 = rsN (Row.mk (rsC (Row.mk (gC enF (s.2.1 ++ s.2.2)) false (Ob.cells true)) (List.length s.2.1) s.2.3 (cellI (gC enA g.1) ((0 : Nat) + Int.toNat (↑s.1 : Int) * (4 : Nat) + (1 : Nat)))) false (Ob.cells true)) (rsN (Row.mk (gC enF (s.2.1 ++ s.2.2)) false (Ob.cells true)) (List.length s.2.1) s.2.3 (cellI (gC enA g.1) ((0 : Nat) + Int.toNat (↑s.1 : Int) * (4 : Nat) + (1 : Nat)))) (rsM s.2.3 (cellI (gC enA g.1) ((0 : Nat) + Int.toNat (↑s.1 : Int) * (4 : Nat) + (1 : Nat)))) (rsM s.2.3 (cellI (gC enA g.1) ((0 : Nat) + Int.toNat (↑s.1 : Int) * (4 : Nat) + (1 : Nat))))) ∧
             (((↑(smZ j.2.1 (List.length j.2.1)) : Int) = rsS (Row.mk (rsC (Row.mk (gC enF (s.2.1 ++ s.2.2)) false (Ob.cells true)) (List.length s.2.1) s.2.3 (cellI (gC enA g.1) ((0 : Nat) + Int.toNat (↑s.1 : Int) * (4 : Nat) + (1 : Nat)))) false (Ob.cells true)) (rsN (Row.mk (gC enF (s.2.1 ++ s.2.2)) false (Ob.cells true)) (List.length s.2.1) s.2.3 (cellI (gC enA g.1) ((0 : Nat) + Int.toNat (↑s.1 : Int) * (4 : Nat) + (1 : Nat)))) (rsM s.2.3 (cellI (gC enA g.1) ((0 : Nat) + Int.toNat (↑s.1 : Int) * (4 : Nat) + (1 : Nat)))) (rsM s.2.3 (cellI (gC enA g.1) ((0 : Nat) + Int.toNat (↑s.1 : Int) * (4 : Nat) + (1 : Nat))))) ∧
             ((j.2.3 = rsM (rsM s.2.3 (cellI (gC enA g.1) ((0 : Nat) + Int.toNat (↑s.1 : Int) * (4 : Nat) + (1 : Nat)))) (rsM s.2.3 (cellI (gC enA g.1) ((0 : Nat) + Int.toNat (↑s.1 : Int) * (4 : Nat) + (1 : Nat))))) ∧
             ((Eq (α := List Value) (gC enF (j.2.1 ++ j.2.2)) (rsC (Row.mk (gC enF (s.2.1 ++ s.2.2)) false (Ob.cells true)) (List.length s.2.1) s.2.3 (cellI (gC enA g.1) ((0 : Nat) + Int.toNat (↑s.1 : Int) * (4 : Nat) + (1 : Nat))))) ∧
             ((Plain (gC enF (j.2.1 ++ j.2.2))) ∧
             ((Eq (α := List Value) (gC enF (j.2.1 ++ j.2.2)) (rsC (Row.mk (rsC (Row.mk (gC enF (s.2.1 ++ s.2.2)) false (Ob.cells true)) (List.length s.2.1) s.2.3 (cellI (gC enA g.1) ((0 : Nat) + Int.toNat (↑s.1 : Int) * (4 : Nat) + (1 : Nat)))) false (Ob.cells true)) (rsN (Row.mk (gC enF (s.2.1 ++ s.2.2)) false (Ob.cells true)) (List.length s.2.1) s.2.3 (cellI (gC enA g.1) ((0 : Nat) + Int.toNat (↑s.1 : Int) * (4 : Nat) + (1 : Nat)))) (rsM s.2.3 (cellI (gC enA g.1) ((0 : Nat) + Int.toNat (↑s.1 : Int) * (4 : Nat) + (1 : Nat)))) (rsM s.2.3 (cellI (gC enA g.1) ((0 : Nat) + Int.toNat (↑s.1 : Int) * (4 : Nat) + (1 : Nat)))))) ∧
             ((Plain (gC enF (j.2.1 ++ j.2.2))) ∧
             True)))))))))))))))))))))))))))
           False)))
          False)
         (br (decide ((0 : Int) ≤ (↑s.1 : Int) ∧ (↑s.1 : Int) < (↑(List.length g.1) : Int)))
          ((Eq (α := Option Value) ((gC enA g.1)[(0 : Nat) + Int.toNat (↑s.1 : Int) * (4 : Nat) + (2 : Nat)]?) (some (Value.string (cellS (gC enA g.1) ((0 : Nat) + Int.toNat (↑s.1 : Int) * (4 : Nat) + (2 : Nat)))))) ∧
          ((Eq (α := Option Value) ((gC enA g.1)[(0 : Nat) + Int.toNat (↑s.1 : Int) * (4 : Nat) + (2 : Nat) + (1 : Nat)]?) (some (Value.string (cellS (gC enA g.1) ((0 : Nat) + Int.toNat (↑s.1 : Int) * (4 : Nat) + (2 : Nat) + (1 : Nat)))))) ∧
          ((((True ∧ ((True ∧ (True ∧ True)) ∧ True)) ∧ (((True ∧ (True ∧ (True ∧ True))) ∧ (Plain (gC enF (s.2.1 ++ s.2.2)) ∧ True)) ∧ ((Plain (adC (Row.mk (gC enF (s.2.1 ++ s.2.2)) false (Ob.cells true)) (List.length s.2.1) s.2.3 (cellS (gC enA g.1) ((0 : Nat) + Int.toNat (↑s.1 : Int) * (4 : Nat) + (2 : Nat))) (cellS (gC enA g.1) ((0 : Nat) + Int.toNat (↑s.1 : Int) * (4 : Nat) + (2 : Nat) + (1 : Nat)))) ∧ True) ∧ (IsTb (Row.mk (gC enF (s.2.1 ++ s.2.2)) false (Ob.cells true)) (List.length s.2.1) (↑(smZ s.2.1 (List.length s.2.1)) : Int) ∧ (fbZ (cellS (gC enA g.1) ((0 : Nat) + Int.toNat (↑s.1 : Int) * (4 : Nat) + (2 : Nat))) (cellS (gC enA g.1) ((0 : Nat) + Int.toNat (↑s.1 : Int) * (4 : Nat) + (2 : Nat) + (1 : Nat))) ≤ (100000000 : Nat) ∧ ((0 : Int) ≤ s.2.3 ∧ s.2.3 ≤ (100000000 : Int)))))))) ∧
          (br (decide ((0 : Int) ≤ (↑s.1 : Int) ∧ (↑s.1 : Int) < (↑(List.length g.1) : Int)))
           ((Eq (α := Option Value) ((gC enA g.1)[(0 : Nat) + Int.toNat (↑s.1 : Int) * (4 : Nat) + (2 : Nat)]?) (some (Value.string (cellS (gC enA g.1) ((0 : Nat) + Int.toNat (↑s.1 : Int) * (4 : Nat) + (2 : Nat)))))) ∧
           ((Eq (α := Option Value) ((gC enA g.1)[(0 : Nat) + Int.toNat (↑s.1 : Int) * (4 : Nat) + (2 : Nat) + (1 : Nat)]?) (some (Value.string (cellS (gC enA g.1) ((0 : Nat) + Int.toNat (↑s.1 : Int) * (4 : Nat) + (2 : Nat) + (1 : Nat)))))) ∧
           ((((True ∧ ((True ∧ (True ∧ True)) ∧ True)) ∧ (((True ∧ (True ∧ (True ∧ True))) ∧ (Plain (gC enF (s.2.1 ++ s.2.2)) ∧ True)) ∧ ((Plain (adC (Row.mk (gC enF (s.2.1 ++ s.2.2)) false (Ob.cells true)) (List.length s.2.1) s.2.3 (cellS (gC enA g.1) ((0 : Nat) + Int.toNat (↑s.1 : Int) * (4 : Nat) + (2 : Nat))) (cellS (gC enA g.1) ((0 : Nat) + Int.toNat (↑s.1 : Int) * (4 : Nat) + (2 : Nat) + (1 : Nat)))) ∧ True) ∧ (IsTb (Row.mk (gC enF (s.2.1 ++ s.2.2)) false (Ob.cells true)) (List.length s.2.1) (↑(smZ s.2.1 (List.length s.2.1)) : Int) ∧ (fbZ (cellS (gC enA g.1) ((0 : Nat) + Int.toNat (↑s.1 : Int) * (4 : Nat) + (2 : Nat))) (cellS (gC enA g.1) ((0 : Nat) + Int.toNat (↑s.1 : Int) * (4 : Nat) + (2 : Nat) + (1 : Nat))) ≤ (100000000 : Nat) ∧ ((0 : Int) ≤ s.2.3 ∧ s.2.3 ≤ (100000000 : Int)))))))) ∧
           ((((True ∧ (True ∧ True)) ∧ (((True ∧ (True ∧ (True ∧ True))) ∧ (Plain (adC (Row.mk (gC enF (s.2.1 ++ s.2.2)) false (Ob.cells true)) (List.length s.2.1) s.2.3 (cellS (gC enA g.1) ((0 : Nat) + Int.toNat (↑s.1 : Int) * (4 : Nat) + (2 : Nat))) (cellS (gC enA g.1) ((0 : Nat) + Int.toNat (↑s.1 : Int) * (4 : Nat) + (2 : Nat) + (1 : Nat)))) ∧ True)) ∧ ((Plain (rsC (Row.mk (adC (Row.mk (gC enF (s.2.1 ++ s.2.2)) false (Ob.cells true)) (List.length s.2.1) s.2.3 (cellS (gC enA g.1) ((0 : Nat) + Int.toNat (↑s.1 : Int) * (4 : Nat) + (2 : Nat))) (cellS (gC enA g.1) ((0 : Nat) + Int.toNat (↑s.1 : Int) * (4 : Nat) + (2 : Nat) + (1 : Nat)))) false (Ob.cells true)) (adN (Row.mk (gC enF (s.2.1 ++ s.2.2)) false (Ob.cells true)) (List.length s.2.1) s.2.3 (cellS (gC enA g.1) ((0 : Nat) + Int.toNat (↑s.1 : Int) * (4 : Nat) + (2 : Nat))) (cellS (gC enA g.1) ((0 : Nat) + Int.toNat (↑s.1 : Int) * (4 : Nat) + (2 : Nat) + (1 : Nat)))) s.2.3 s.2.3) ∧ True) ∧ IsTb (Row.mk (adC (Row.mk (gC enF (s.2.1 ++ s.2.2)) false (Ob.cells true)) (List.length s.2.1) s.2.3 (cellS (gC enA g.1) ((0 : Nat) + Int.toNat (↑s.1 : Int) * (4 : Nat) + (2 : Nat))) (cellS (gC enA g.1) ((0 : Nat) + Int.toNat (↑s.1 : Int) * (4 : Nat) + (2 : Nat) + (1 : Nat)))) false (Ob.cells true)) (adN (Row.mk (gC enF (s.2.1 ++ s.2.2)) false (Ob.cells true)) (List.length s.2.1) s.2.3 (cellS (gC enA g.1) ((0 : Nat) + Int.toNat (↑s.1 : Int) * (4 : Nat) + (2 : Nat))) (cellS (gC enA g.1) ((0 : Nat) + Int.toNat (↑s.1 : Int) * (4 : Nat) + (2 : Nat) + (1 : Nat)))) (adS (Row.mk (gC enF (s.2.1 ++ s.2.2)) false (Ob.cells true)) (List.length s.2.1) s.2.3 (cellS (gC enA g.1) ((0 : Nat) + Int.toNat (↑s.1 : Int) * (4 : Nat) + (2 : Nat))) (cellS (gC enA g.1) ((0 : Nat) + Int.toNat (↑s.1 : Int) * (4 : Nat) + (2 : Nat) + (1 : Nat)))))))) ∧
           (br (rsZ s.2.3 != (0 : Int))
            False
            (br (Int.ofNat (adN (Row.mk (gC enF (s.2.1 ++ s.2.2)) false (Ob.cells true)) (List.length s.2.1) s.2.3 (cellS (gC enA g.1) ((0 : Nat) + Int.toNat (↑s.1 : Int) * (4 : Nat) + (2 : Nat))) (cellS (gC enA g.1) ((0 : Nat) + Int.toNat (↑s.1 : Int) * (4 : Nat) + (2 : Nat) + (1 : Nat)))) != Int.ofNat (rsN (Row.mk (adC (Row.mk (gC enF (s.2.1 ++ s.2.2)) false (Ob.cells true)) (List.length s.2.1) s.2.3 (cellS (gC enA g.1) ((0 : Nat) + Int.toNat (↑s.1 : Int) * (4 : Nat) + (2 : Nat))) (cellS (gC enA g.1) ((0 : Nat) + Int.toNat (↑s.1 : Int) * (4 : Nat) + (2 : Nat) + (1 : Nat)))) false (Ob.cells true)) (adN (Row.mk (gC enF (s.2.1 ++ s.2.2)) false (Ob.cells true)) (List.length s.2.1) s.2.3 (cellS (gC enA g.1) ((0 : Nat) + Int.toNat (↑s.1 : Int) * (4 : Nat) + (2 : Nat))) (cellS (gC enA g.1) ((0 : Nat) + Int.toNat (↑s.1 : Int) * (4 : Nat) + (2 : Nat) + (1 : Nat)))) s.2.3 s.2.3))
             False
             (∃ j : Nat × Tb, ((Inv j) ∧
             ((m j < m s) ∧
             (((0 : Nat) = (0 : Nat)) ∧
             ((List.length g.1 = List.length g.1) ∧
             (((0 : Nat) = (0 : Nat)) ∧
             (((0 : Nat) = (0 : Nat)) ∧
             (((↑j.1 : Int) = IntKind.wrap IntKind.i64 ((↑s.1 : Int) + (1 : Int))) ∧
             ((Eq (α := List Value) (gC enA g.1) (gC enA g.1)) ∧
             ((Plain (gC enA g.1)) ∧
             (((0 : Nat) = (0 : Nat)) ∧
             ((List.length j.2.1 = adN (Row.mk (gC enF (s.2.1 ++ s.2.2)) false (Ob.cells true)) (List.length s.2.1) s.2.3 (cellS (gC enA g.1) ((0 : Nat) + Int.toNat (↑s.1 : Int) * (4 : Nat) + (2 : Nat))) (cellS (gC enA g.1) ((0 : Nat) + Int.toNat (↑s.1 : Int) * (4 : Nat) + (2 : Nat) + (1 : Nat)))) ∧
             (((↑(smZ j.2.1 (List.length j.2.1)) : Int) = adS (Row.mk (gC enF (s.2.1 ++ s.2.2)) false (Ob.cells true)) (List.length s.2.1) s.2.3 (cellS (gC enA g.1) ((0 : Nat) + Int.toNat (↑s.1 : Int) * (4 : Nat) + (2 : Nat))) (cellS (gC enA g.1) ((0 : Nat) + Int.toNat (↑s.1 : Int) * (4 : Nat) + (2 : Nat) + (1 : Nat)))) ∧
             ((j.2.3 = s.2.3) ∧
             (((0 : Nat) = (0 : Nat)) ∧
             ((List.length j.2.1 = rsN (Row.mk (adC (Row.mk (gC enF (s.2.1 ++ s.2.2)) false (Ob.cells true)) (List.length s.2.1) s.2.3 (cellS (gC enA g.1) ((0 : Nat) + Int.toNat (↑s.1 : Int) * (4 : Nat) + (2 : Nat))) (cellS (gC enA g.1) ((0 : Nat) + Int.toNat (↑s.1 : Int) * (4 : Nat) + (2 : Nat) + (1 : Nat)))) false (Ob.cells true)) (adN (Row.mk (gC enF (s.2.1 ++ s.2.2)) false (Ob.cells true)) (List.length s.2.1) s.2.3 (cellS (gC enA g.1) ((0 : Nat) + Int.toNat (↑s.1 : Int) * (4 : Nat) + (2 : Nat))) (cellS (gC enA g.1) ((0 : Nat) + Int.toNat (↑s.1 : Int) * (4 : Nat) + (2 : Nat) + (1 : Nat)))) s.2.3 s.2.3) ∧
             (((↑(smZ j.2.1 (List.length j.2.1)) : Int) = rsS (Row.mk (adC (Row.mk (gC enF (s.2.1 ++ s.2.2)) false (Ob.cells true)) (List.length s.2.1) s.2.3 (cellS (gC enA g.1) ((0 : Nat) + Int.toNat (↑s.1 : Int) * (4 : Nat) + (2 : Nat))) (cellS (gC enA g.1) ((0 : Nat) + Int.toNat (↑s.1 : Int) * (4 : Nat) + (2 : Nat) + (1 : Nat)))) false (Ob.cells true)) (adN (Row.mk (gC enF (s.2.1 ++ s.2.2)) false (Ob.cells true)) (List.length s.2.1) s.2.3 (cellS (gC enA g.1) ((0 : Nat) + Int.toNat (↑s.1 : Int) * (4 : Nat) + (2 : Nat))) (cellS (gC enA g.1) ((0 : Nat) + Int.toNat (↑s.1 : Int) * (4 : Nat) + (2 : Nat) + (1 : Nat)))) s.2.3 s.2.3) ∧
             ((j.2.3 = rsM s.2.3 s.2.3) ∧
             ((Eq (α := List Value) (gC enF (j.2.1 ++ j.2.2)) (adC (Row.mk (gC enF (s.2.1 ++ s.2.2)) false (Ob.cells true)) (List.length s.2.1) s.2.3 (cellS (gC enA g.1) ((0 : Nat) + Int.toNat (↑s.1 : Int) * (4 : Nat) + (2 : Nat))) (cellS (gC enA g.1) ((0 : Nat) + Int.toNat (↑s.1 : Int) * (4 : Nat) + (2 : Nat) + (1 : Nat))))) ∧
             ((Plain (gC enF (j.2.1 ++ j.2.2))) ∧
             ((Eq (α := List Value) (gC enF (j.2.1 ++ j.2.2)) (rsC (Row.mk (adC (Row.mk (gC enF (s.2.1 ++ s.2.2)) false (Ob.cells true)) (List.length s.2.1) s.2.3 (cellS (gC enA g.1) ((0 : Nat) + Int.toNat (↑s.1 : Int) * (4 : Nat) + (2 : Nat))) (cellS (gC enA g.1) ((0 : Nat) + Int.toNat (↑s.1 : Int) * (4 : Nat) + (2 : Nat) + (1 : Nat)))) false (Ob.cells true)) (adN (Row.mk (gC enF (s.2.1 ++ s.2.2)) false (Ob.cells true)) (List.length s.2.1) s.2.3 (cellS (gC enA g.1) ((0 : Nat) + Int.toNat (↑s.1 : Int) * (4 : Nat) + (2 : Nat))) (cellS (gC enA g.1) ((0 : Nat) + Int.toNat (↑s.1 : Int) * (4 : Nat) + (2 : Nat) + (1 : Nat)))) s.2.3 s.2.3)) ∧
             ((Plain (gC enF (j.2.1 ++ j.2.2))) ∧
             True))))))))))))))))))))))))))))
           False))))
          False)))
        False)))))))
      False))
     False)
    (∃ y : Tb, ((Ok y) ∧
    (((0 : Nat) = (0 : Nat)) ∧
    ((List.length g.1 = List.length g.1) ∧
    (((0 : Nat) = (0 : Nat)) ∧
    (((0 : Nat) = (0 : Nat)) ∧
    ((Eq (α := List Value) (gC enA g.1) (gC enA g.1)) ∧
    ((Plain (gC enA g.1)) ∧
    (((0 : Nat) = (0 : Nat)) ∧
    ((List.length y.1 = List.length s.2.1) ∧
    (((↑(smZ y.1 (List.length y.1)) : Int) = (↑(smZ s.2.1 (List.length s.2.1)) : Int)) ∧
    ((y.3 = s.2.3) ∧
    (((0 : Nat) = (0 : Nat)) ∧
    ((List.length y.1 = List.length s.2.1) ∧
    (((↑(smZ y.1 (List.length y.1)) : Int) = (↑(smZ s.2.1 (List.length s.2.1)) : Int)) ∧
    ((y.3 = s.2.3) ∧
    ((Eq (α := List Value) (gC enF (y.1 ++ y.2)) (gC enF (s.2.1 ++ s.2.2))) ∧
    ((Plain (gC enF (y.1 ++ y.2))) ∧
    ((Eq (α := List Value) (gC enF (y.1 ++ y.2)) (gC enF (s.2.1 ++ s.2.2))) ∧
    ((Plain (gC enF (y.1 ++ y.2))) ∧
    True)))))))))))))))))))))
   (∃ y : Tb, ((Ok y) ∧
   (((0 : Nat) = (0 : Nat)) ∧
   ((List.length g.1 = List.length g.1) ∧
   (((0 : Nat) = (0 : Nat)) ∧
   (((0 : Nat) = (0 : Nat)) ∧
   ((Eq (α := List Value) (gC enA g.1) (gC enA g.1)) ∧
   ((Plain (gC enA g.1)) ∧
   (((0 : Nat) = (0 : Nat)) ∧
   ((List.length y.1 = List.length s.2.1) ∧
   (((↑(smZ y.1 (List.length y.1)) : Int) = (↑(smZ s.2.1 (List.length s.2.1)) : Int)) ∧
   ((y.3 = s.2.3) ∧
   (((0 : Nat) = (0 : Nat)) ∧
   ((List.length y.1 = List.length s.2.1) ∧
   (((↑(smZ y.1 (List.length y.1)) : Int) = (↑(smZ s.2.1 (List.length s.2.1)) : Int)) ∧
   ((y.3 = s.2.3) ∧
   ((Eq (α := List Value) (gC enF (y.1 ++ y.2)) (gC enF (s.2.1 ++ s.2.2))) ∧
   ((Plain (gC enF (y.1 ++ y.2))) ∧
   ((Eq (α := List Value) (gC enF (y.1 ++ y.2)) (gC enF (s.2.1 ++ s.2.2))) ∧
   ((Plain (gC enF (y.1 ++ y.2))) ∧
   True))))))))))))))))))))) := by kernel_rfl
theorem T2_round (g : GTw2) (k : Nat) (Inv : Nat → Prop) (m : Nat → Nat) : mev EtTw noM 60 6 (0 :: pT2) false (codeOf Try.prog 6 (0 :: pT2)) ⟨mkOv (slT2 g k), 145, []⟩ none ⟨mkR ((0, gRo enA g.l) :: rwT g.t 1 2), 5⟩ (roundK 1 5 145 Inv m (slT2 g) (fun _ => (0, gRo enA g.l) :: rwT g.t 1 2) (wsT2 g) k) =
  (br (decide ((↑(k + (62 : Nat)) : Int) < IntKind.wrap IntKind.i64 ((62 : Int) + Int.ofNat (List.length g.1.1))))
   ((((True ∧ (True ∧ True)) ∧ (((True ∧ (True ∧ (True ∧ True))) ∧ (Plain (gC enF (g.1.1 ++ g.1.2)) ∧ True)) ∧ ((Plain (gC enF (g.1.1 ++ g.1.2)) ∧ True) ∧ (IsTg (Row.mk (gC enF (g.1.1 ++ g.1.2)) false (Ob.cells true)) (List.length g.1.1) ∧ I64 (↑(k + (62 : Nat)) : Int)))))) ∧
   ((((True ∧ (True ∧ True)) ∧ (((True ∧ (True ∧ (True ∧ True))) ∧ (Plain (gC enF (g.1.1 ++ g.1.2)) ∧ True)) ∧ ((Plain (gC enF (g.1.1 ++ g.1.2)) ∧ True) ∧ (IsTg (Row.mk (gC enF (g.1.1 ++ g.1.2)) false (Ob.cells true)) (List.length g.1.1) ∧ I64 (↑(k + (62 : Nat)) : Int)))))) ∧
   (br (!(gfA (Row.mk (gC enF (g.1.1 ++ g.1.2)) false (Ob.cells true)) (List.length g.1.1) (↑(k + (62 : Nat)) : Int) == gfA (Row.mk (gC enF (g.1.1 ++ g.1.2)) false (Ob.cells true)) (List.length g.1.1) (↑(k + (62 : Nat)) : Int) && (gfB (Row.mk (gC enF (g.1.1 ++ g.1.2)) false (Ob.cells true)) (List.length g.1.1) (↑(k + (62 : Nat)) : Int) == gfB (Row.mk (gC enF (g.1.1 ++ g.1.2)) false (Ob.cells true)) (List.length g.1.1) (↑(k + (62 : Nat)) : Int) && true)))
    False
    (br (!gfK (Row.mk (gC enF (g.1.1 ++ g.1.2)) false (Ob.cells true)) (List.length g.1.1) (↑(k + (62 : Nat)) : Int))
     False
     (br (!gfK (Row.mk (gC enF (g.1.1 ++ g.1.2)) false (Ob.cells true)) (List.length g.1.1) (↑(k + (62 : Nat)) : Int))
      False
      (∃ j : Nat, ((Inv j) ∧
      ((m j < m k) ∧
      (((0 : Nat) = (0 : Nat)) ∧
      ((List.length g.2 = List.length g.2) ∧
      (((0 : Nat) = (0 : Nat)) ∧
      (((0 : Nat) = (0 : Nat)) ∧
      (((↑(j + (62 : Nat)) : Int) = IntKind.wrap IntKind.i64 ((↑(k + (62 : Nat)) : Int) + (1 : Int))) ∧
      ((Eq (α := List Value) (gC enA g.2) (gC enA g.2)) ∧
      ((Plain (gC enA g.2)) ∧
      (((0 : Nat) = (0 : Nat)) ∧
      ((List.length g.1.1 = List.length g.1.1) ∧
      (((↑(smZ g.1.1 (List.length g.1.1)) : Int) = (↑(smZ g.1.1 (List.length g.1.1)) : Int)) ∧
      ((g.1.3 = g.1.3) ∧
      (((0 : Nat) = (0 : Nat)) ∧
      ((List.length g.1.1 = List.length g.1.1) ∧
      (((↑(smZ g.1.1 (List.length g.1.1)) : Int) = (↑(smZ g.1.1 (List.length g.1.1)) : Int)) ∧
      ((g.1.3 = g.1.3) ∧
      ((Eq (α := List Value) (gC enF (g.1.1 ++ g.1.2)) (gC enF (g.1.1 ++ g.1.2))) ∧
      ((Plain (gC enF (g.1.1 ++ g.1.2))) ∧
      ((Eq (α := List Value) (gC enF (g.1.1 ++ g.1.2)) (gC enF (g.1.1 ++ g.1.2))) ∧
      ((Plain (gC enF (g.1.1 ++ g.1.2))) ∧
      True)))))))))))))))))))))))))))
   (∃ y : Unit, ((True) ∧
   (((0 : Nat) = (0 : Nat)) ∧
   ((List.length g.2 = List.length g.2) ∧
   ((Eq (α := List Value) (gC enA g.2) (gC enA g.2)) ∧
   ((Plain (gC enA g.2)) ∧
   True))))))) := by kernel_rfl
theorem Tw_vc (most : Int) (l : List Asx) : mcall EtTw mTw 60 6 [.int .i64 most, .slice (some ⟨0, 0, none⟩) l.length 4] ⟨mkR (nums 0 [gRo enA l]), 1⟩ (retIs 1 (.bool true) [gRo enA l]) =
  ((((True ∧ (True ∧ (True ∧ True))) ∧ (True ∧ (True ∧ (I64 most ∧ ((-1000000000000 : Int) ≤ (0 : Int) ∧ ((65536 : Int) ≤ (1000000000000 : Int) ∧ (0 : Int) ≤ (65536 : Int)))))))) ∧
  (br (decide (inside most (0 : Int) (65536 : Int) < (0 : Int)))
   (br (decide (inside most (0 : Int) (65536 : Int) < (0 : Int)))
    ((true = false) ∧
    ((Eq (α := List Value) (gC enA l) (gC enA l)) ∧
    ((Plain (gC enA l)) ∧
    True)))
    (br (decide (inside most (0 : Int) (65536 : Int) > (65536 : Int)))
     ((true = false) ∧
     ((Eq (α := List Value) (gC enA l) (gC enA l)) ∧
     ((Plain (gC enA l)) ∧
     True)))
     ((true = false) ∧
     ((Eq (α := List Value) (gC enA l) (gC enA l)) ∧
     ((Plain (gC enA l)) ∧
     True)))))
   (br (decide (inside most (0 : Int) (65536 : Int) > (65536 : Int)))
    (br (decide (inside most (0 : Int) (65536 : Int) < (0 : Int)))
     ((true = false) ∧
     ((Eq (α := List Value) (gC enA l) (gC enA l)) ∧
     ((Plain (gC enA l)) ∧
     True)))
     (br (decide (inside most (0 : Int) (65536 : Int) > (65536 : Int)))
      ((true = false) ∧
      ((Eq (α := List Value) (gC enA l) (gC enA l)) ∧
      ((Plain (gC enA l)) ∧
      True)))
      ((true = false) ∧
      ((Eq (α := List Value) (gC enA l) (gC enA l)) ∧
      ((Plain (gC enA l)) ∧
      True)))))
    (br (decide (inside most (0 : Int) (65536 : Int) < (0 : Int)))
     ((true = false) ∧
     ((Eq (α := List Value) (gC enA l) (gC enA l)) ∧
     ((Plain (gC enA l)) ∧
     True)))
     (br (decide (inside most (0 : Int) (65536 : Int) > (65536 : Int)))
      ((true = false) ∧
      ((Eq (α := List Value) (gC enA l) (gC enA l)) ∧
      ((Plain (gC enA l)) ∧
      True)))
      (∃ g : GTw, (((∀ (a : Asx), a ∈ GTw.l g → List.length (Fl.n (Asx.f a)) ≤ (1048576 : Nat) ∧ List.length (Fl.v (Asx.f a)) ≤ (1048576 : Nat)) ∧ (0 : Int) ≤ g.2 ∧ g.2 ≤ (65536 : Int)) ∧
      (((0 : Nat) = (0 : Nat)) ∧
      ((List.length g.1 = List.length l) ∧
      (((0 : Nat) = (0 : Nat)) ∧
      (((0 : Nat) = (0 : Nat)) ∧
      (((↑(0 : Nat) : Int) = (0 : Int)) ∧
      ((Eq (α := List Value) (gC enA g.1) (gC enA l)) ∧
      ((Plain (gC enA g.1)) ∧
      (((0 : Nat) = (0 : Nat)) ∧
      (((↑(smZ [] (0 : Nat)) : Int) = (0 : Int)) ∧
      ((g.2 = inside most (0 : Int) (65536 : Int)) ∧
      (((0 : Nat) = (0 : Nat)) ∧
      (((↑(smZ [] (0 : Nat)) : Int) = (0 : Int)) ∧
      ((g.2 = inside most (0 : Int) (65536 : Int)) ∧
      ((Eq (α := List Value) ([]) ([])) ∧
      ((Eq (α := List Value) ([]) ([])) ∧
      (∀ (y : Tb), ((Ok y) →
      (∃ g2 : GTw2, ((Ok (GTw2.t g2)) ∧
      (((0 : Nat) = (0 : Nat)) ∧
      ((List.length g2.2 = List.length g.1) ∧
      (((0 : Nat) = (0 : Nat)) ∧
      (((0 : Nat) = (0 : Nat)) ∧
      (((62 : Int) = (62 : Int)) ∧
      ((Eq (α := List Value) (gC enA g2.2) (gC enA g.1)) ∧
      ((Plain (gC enA g2.2)) ∧
      (((0 : Nat) = (0 : Nat)) ∧
      ((List.length g2.1.1 = List.length y.1) ∧
      (((↑(smZ g2.1.1 (List.length g2.1.1)) : Int) = (↑(smZ y.1 (List.length y.1)) : Int)) ∧
      ((g2.1.3 = y.3) ∧
      (((0 : Nat) = (0 : Nat)) ∧
      ((List.length g2.1.1 = List.length y.1) ∧
      (((↑(smZ g2.1.1 (List.length g2.1.1)) : Int) = (↑(smZ y.1 (List.length y.1)) : Int)) ∧
      ((g2.1.3 = y.3) ∧
      ((Eq (α := List Value) (gC enF (g2.1.1 ++ g2.1.2)) (gC enF (y.1 ++ y.2))) ∧
      ((Plain (gC enF (g2.1.1 ++ g2.1.2))) ∧
      ((Eq (α := List Value) (gC enF (g2.1.1 ++ g2.1.2)) (gC enF (y.1 ++ y.2))) ∧
      ((Plain (gC enF (g2.1.1 ++ g2.1.2))) ∧
      (∀ (y2 : Unit), ((True) →
      (((True ∧ (True ∧ (True ∧ True)))) ∧
      ((true = true) ∧
      ((Eq (α := List Value) (gC enA l) (gC enA g2.2)) ∧
      ((Plain (gC enA l)) ∧
      True))))))))))))))))))))))))))))))))))))))))))))))))))) := by kernel_rfl
theorem eWiT_ok : EntOk Try.prog eWiT := entC_ok (by
  intro a rows p v news h hp
  split at h <;> simp only [Option.some.injEq, Prod.mk.injEq, reduceCtorEq] at h
  obtain ⟨rfl, rfl, rfl⟩ := h
  exact Go.Proofs.Ytpfigiokmcojeaa.tk.within_con _ _ _ hp.1 hp.2.1 hp.2.2.1 hp.2.2.2)
theorem eRunsT_ok : EntOk Try.prog eRunsT := entC_ok (by
  intro a rows p v news h hp
  split at h <;> simp only [Option.some.injEq, Prod.mk.injEq, reduceCtorEq] at h
  obtain ⟨rfl, rfl, rfl⟩ := h
  exact con_run mixed (n := 1000000) (by kernel_rfl) (by kernel_rfl))
theorem tTw_ok : ∀ x ∈ tTw, EntOk Try.prog x := all_cons eWiT_ok (all_cons eRunsT_ok (all_cons eAddT_ok (all_cons eResT_ok (all_cons eGetT_ok (all_nil)))))
theorem asK (a : Asx) : (enA a).length = 4 := rfl
theorem asP (a : Asx) : Plain (enA a) := by intro v hv; simp [enA] at hv; rcases hv with rfl | rfl | rfl | rfl <;> rfl
theorem asPl (l : List Asx) : Plain (gC enA l) := gC_plain asP l
theorem cellI_ofT {l : List Value} {i : Nat} {k : IntKind} {n : Int} (h : l[i]? = some (.int k n)) : cellI l i = n := by unfold cellI; rw [h]
theorem asGet (l : List Asx) (i : Nat) (h : i < l.length) : (gC enA l)[i * 4]? = some (.int .i64 l[i].k) ∧ (gC enA l)[i * 4 + 1]? = some (.int .i64 l[i].n) ∧ (gC enA l)[i * 4 + 2]? = some (.string (bs l[i].f.n)) ∧ (gC enA l)[i * 4 + 2 + 1]? = some (.string (bs l[i].f.v)) ∧ cellI (gC enA l) (i * 4) = l[i].k ∧ cellI (gC enA l) (i * 4 + 1) = l[i].n ∧ cellS (gC enA l) (i * 4 + 2) = bs l[i].f.n ∧ cellS (gC enA l) (i * 4 + 2 + 1) = bs l[i].f.v := by
  have h0 := gC_get asK l i 0 h (by omega)
  have h1 := gC_get asK l i 1 h (by omega)
  have h2 := gC_get asK l i 2 h (by omega)
  have h3 := gC_get asK l i 3 h (by omega)
  exact ⟨h0, h1, h2, h3, cellI_ofT h0, cellI_ofT h1, cellS_of h2, cellS_of h3⟩
theorem isTb_mk (t : Tb) (h : Ok t) : IsTb ⟨gC enF (t.l ++ t.j), false, .cells true⟩ t.l.length ((smN t.l : Nat) : Int) := by
  obtain ⟨h1, h2, h3⟩ := h
  have := ok_len t.l
  exact ⟨t.l, t.j, rfl, rfl, rfl, by omega, by omega⟩
theorem T1_piece : PieceOk EtTw 1 (6, pT1, specT1) := by
  refine piece_loop mixed (calls_envT tTw_ok) (lok_envT _ _) lm_none (n := 60) (by kernel_rfl) (fun g : GTw => ((0, ⟨[], [], g.m⟩) : Nat × Tb)) (fun g s => s.1 ≤ g.l.length ∧ Ok s.2) (fun g s => g.l.length - s.1) (sl := slT1) (rl := rlT1) (fun g hg => ⟨Nat.zero_le _, ⟨hg.2.1, hg.2.1, hg.2.2⟩⟩) (fun g s hg hi => ?_)
  obtain ⟨h1, h2⟩ := hi
  obtain ⟨hg, _⟩ := hg
  refine (T1_round g s _ _).mpr ?_
  obtain ⟨i, tl, tj, tm⟩ := s
  have one : ∀ l : List Fl, smN (l.take l.length) = smN l := fun l => by rw [List.take_length]
  have rN : ∀ l j m k, rsN ⟨gC enF (l ++ j), false, .cells true⟩ l.length m k = (rsT ⟨l, j, m⟩ k).l.length := fun l j m k => (rs_mk l j m k).1
  have rS : ∀ l j m k, rsS ⟨gC enF (l ++ j), false, .cells true⟩ l.length m k = (smN (rsT ⟨l, j, m⟩ k).l : Nat) := fun l j m k => (rs_mk l j m k).2.1
  have rC : ∀ l j m k, rsC ⟨gC enF (l ++ j), false, .cells true⟩ l.length m k = gC enF ((rsT ⟨l, j, m⟩ k).l ++ (rsT ⟨l, j, m⟩ k).j) := fun l j m k => (rs_mk l j m k).2.2
  have aN : ∀ l j m a b, adN ⟨gC enF (l ++ j), false, .cells true⟩ l.length m (bs a) (bs b) = (addT ⟨l, j, m⟩ ⟨a, b⟩).l.length := fun l j m a b => (ad_mk l j m a b).1
  have aS : ∀ l j m a b, adS ⟨gC enF (l ++ j), false, .cells true⟩ l.length m (bs a) (bs b) = (smN (addT ⟨l, j, m⟩ ⟨a, b⟩).l : Nat) := fun l j m a b => (ad_mk l j m a b).2.1
  have aC : ∀ l j m a b, adC ⟨gC enF (l ++ j), false, .cells true⟩ l.length m (bs a) (bs b) = gC enF ((addT ⟨l, j, m⟩ ⟨a, b⟩).l ++ (addT ⟨l, j, m⟩ ⟨a, b⟩).j) := fun l j m a b => (ad_mk l j m a b).2.2
  simp only at h1 h2
  simp only [ofNat_eq, toNat_cast, Nat.zero_add, Nat.add_zero, Nat.mul_one, List.drop_zero, bCells_len, bCells_drop, bCells_take, bCells_app, bCells_one, bCells_plain, List.length_replicate, List.length_append, List.length_take, List.length_drop, List.take_length, and_true, true_and, and_self, decide_true, List.length_nil, List.length_cons, Nat.sub_zero, dB_mk, dB_ro, List.take_zero, z_smZ, one, asPl, fPl]
  refine br_if (fun h => br_if (fun h60 => br_dec (by omega) ?_) (fun h60 => ?_)) (fun h => ?_)
  · have hi : i < g.l.length := by omega
    obtain ⟨c0, c1, c2, c3, d0, d1, d2, d3⟩ := asGet g.l i hi
    have e2 : (bs g.l[i].f.n).data.toList.length = g.l[i].f.n.length := bs_len _
    have e3 : (bs g.l[i].f.v).data.toList.length = g.l[i].f.v.length := bs_len _
    simp only [c0, c1, c2, c3, d0, d1, d2, d3, e2, e3, rN, rS, rC, aN, aS, aC, true_and, fPl]
    have w1 : IntKind.i64.wrap ((i : Int) + 1) = ((i + 1 : Nat) : Int) := by rw [wr64_id (by unfold I64; omega)]; omega
    have ib := isTb_mk ⟨tl, tj, tm⟩ h2
    simp only at ib
    obtain ⟨l1, l2⟩ := hg _ (List.getElem_mem hi)
    have wl : IntKind.i64.wrap ((g.l[i].f.n.length : Int) + (g.l[i].f.v.length : Int)) = (g.l[i].f.n.length : Int) + (g.l[i].f.v.length : Int) := wr64_id (by unfold I64; omega)
    rw [wl]
    refine br_dec (by omega) (br_if (fun hb => ?_) (fun hb => br_dec (by omega) (br_intro (fun hk => br_dec (by omega) ⟨ib, br_dec (by omega) ⟨ib, ?_⟩⟩) (fun hk => br_dec (by omega) ?_))))
    · exact ⟨(i + 1, ⟨tl, tj, tm⟩), ⟨by simp only; omega, h2⟩, by simp only; omega, w1.symm, rfl, rfl, rfl, rfl, rfl, rfl, rfl⟩
    · have hM : rsM tm g.l[i].n = (rsT ⟨tl, tj, tm⟩ g.l[i].n).most := by rw [z_rsM, rsT_m]
      have hO := ok_rs ⟨tl, tj, tm⟩ g.l[i].n h2
      rw [hM]
      generalize rsT ⟨tl, tj, tm⟩ g.l[i].n = u at hO ⊢
      obtain ⟨ul, uj, um⟩ := u
      have hs : rsT ⟨ul, uj, um⟩ um = ⟨ul, uj, um⟩ := rsT_same _ hO.1
      have hm : rsM um um = um := by rw [z_rsM]; split <;> rfl
      have hz : rsZ um = 0 := by rw [z_rsZ]; obtain ⟨_, q1, q2⟩ := hO; simp only at q1 q2; exact if_neg (by omega)
      have ib2 := isTb_mk ⟨ul, uj, um⟩ hO
      simp only at ib2
      simp only [hs, hm, hz]
      exact ⟨ib2, br_nb (by decide) (br_nb (by simp) ⟨(i + 1, ⟨ul, uj, um⟩), ⟨by simp only; omega, hO⟩, by simp only; omega, w1.symm, rfl, rfl, rfl, rfl, rfl, rfl, rfl, rfl⟩)⟩
    · have hO := ok_ad ⟨tl, tj, tm⟩ ⟨g.l[i].f.n, g.l[i].f.v⟩ h2
      have hA : (addT ⟨tl, tj, tm⟩ ⟨g.l[i].f.n, g.l[i].f.v⟩).most = tm := addT_m _ _
      have hf : fbZ (bs g.l[i].f.n) (bs g.l[i].f.v) ≤ 100000000 := by
        rw [z_fbZ]; unfold fbN; rw [L_bs, L_bs]; simp only; omega
      generalize addT ⟨tl, tj, tm⟩ ⟨g.l[i].f.n, g.l[i].f.v⟩ = u at hO hA ⊢
      obtain ⟨ul, uj, um⟩ := u
      simp only at hA
      subst hA
      have hs : rsT ⟨ul, uj, um⟩ um = ⟨ul, uj, um⟩ := rsT_same _ hO.1
      have hm : rsM um um = um := by rw [z_rsM]; split <;> rfl
      obtain ⟨q0, q1, q2⟩ := hO
      simp only at q1 q2
      have hz : rsZ um = 0 := by rw [z_rsZ]; exact if_neg (by omega)
      have ib2 := isTb_mk ⟨ul, uj, um⟩ ⟨q0, q1, q2⟩
      simp only at ib2
      simp only [hs, hm, hz]
      exact ⟨⟨ib, hf, q1, by omega⟩, br_dec (by omega) ⟨⟨ib, hf, q1, by omega⟩, ib2, br_nb (by decide) (br_nb (by simp) ⟨(i + 1, ⟨ul, uj, um⟩), ⟨by simp only; omega, ⟨q0, q1, q2⟩⟩, by simp only; omega, w1.symm, rfl, rfl, rfl, rfl, rfl, rfl, rfl, rfl⟩)⟩⟩
  · exact ⟨⟨tl, tj, tm⟩, h2, rfl, rfl, rfl, rfl, rfl, rfl, rfl⟩
  · exact ⟨⟨tl, tj, tm⟩, h2, rfl, rfl, rfl, rfl, rfl, rfl, rfl⟩
theorem T2_piece : PieceOk EtTw 1 (6, pT2, specT2) := by
  refine piece_loop mixed (calls_envT tTw_ok) (lok_envT _ _) lm_none (n := 60) (by kernel_rfl) (fun _ : GTw2 => 0) (fun g k => k ≤ g.t.l.length) (fun g k => g.t.l.length - k) (sl := slT2) (rl := fun g _ => (0, gRo enA g.l) :: rwT g.t 1 2) (fun g hg => Nat.zero_le _) (fun g k hg hi => ?_)
  refine (T2_round g k _ _).mpr ?_
  obtain ⟨⟨tl, tj, tm⟩, al⟩ := g
  simp only at hi hg
  obtain ⟨g1, g2, g3⟩ := hg
  simp only at g1 g2 g3
  have hl := ok_len tl
  obtain ⟨e1, e2, e3⟩ := gf_mk tl tj false (.cells true) ((k + 62 : Nat) : Int)
  have w1 : IntKind.i64.wrap (62 + (tl.length : Int)) = 62 + (tl.length : Int) := wr64_id (by unfold I64; omega)
  have w2 : IntKind.i64.wrap (((k + 62 : Nat) : Int) + 1) = ((k + 1 + 62 : Nat) : Int) := by rw [wr64_id (by unfold I64; omega)]; omega
  simp only [ofNat_eq, toNat_cast, Nat.zero_add, Nat.add_zero, Nat.mul_one, List.drop_zero, bCells_len, bCells_drop, bCells_take, bCells_app, bCells_one, bCells_plain, List.length_replicate, List.length_append, List.length_take, List.length_drop, List.take_length, and_true, true_and, and_self, decide_true, List.length_nil, List.length_cons, Nat.sub_zero, dB_mk, dB_ro, List.take_zero, z_smZ, e1, e2, e3, bq_bs, w1, w2, asPl, fPl]
  refine br_if (fun h => ?_) (fun h => ⟨(), trivial⟩)
  have hn : (((k + 62 : Nat) : Int) - 62).toNat < tl.length := by omega
  have ok : (getF tl ((k + 62 : Nat) : Int)).2 = true := by unfold getF; rw [if_neg (by omega), if_pos hn]
  have hI : I64 ((k + 62 : Nat) : Int) := by unfold I64; omega
  rw [ok]
  exact ⟨⟨isTg_mk _ _ (by omega), hI⟩, ⟨isTg_mk _ _ (by omega), hI⟩, k + 1, by omega, by omega, rfl⟩
theorem Tw_con (most : Int) (l : List Asx) (hm : I64 most) (hl : l.length ≤ 1048576) (h : ∀ a ∈ l, a.f.n.length ≤ 1048576 ∧ a.f.v.length ≤ 1048576) : Con Try.prog 6 [.int .i64 most, .slice (some ⟨0, 0, none⟩) l.length 4] [gRo enA l] (.bool true) [gRo enA l] := by
  refine con_vc (E := EtTw) mixed (calls_envT tTw_ok) (lok_envT _ _) (M := mTw) (lm_two T1_piece T2_piece) (Tw_vc most l) ?_
  obtain ⟨i1, i2⟩ := inside_in most 0 65536 (by omega)
  simp only [ofNat_eq, toNat_cast, Nat.zero_add, Nat.add_zero, Nat.mul_one, List.drop_zero, bCells_len, bCells_drop, bCells_take, bCells_app, bCells_one, bCells_plain, List.length_replicate, List.length_append, List.length_take, List.length_drop, List.take_length, and_true, true_and, and_self, decide_true, List.length_nil, List.length_cons, Nat.sub_zero, dB_mk, dB_ro, List.take_zero, z_smZ, asPl, fPl]
  exact ⟨⟨hm, by omega, by omega, by omega⟩, br_nd (by omega) (br_nd (by omega) (br_nd (by omega) (br_nd (by omega) ⟨⟨l, inside most 0 65536⟩, ⟨h, i1, i2⟩, rfl, rfl, rfl, rfl, rfl, rfl, rfl, fun y hy => ⟨⟨y, l⟩, hy, rfl, rfl, rfl, rfl, rfl, rfl, rfl, rfl, rfl, rfl, fun _ _ => rfl⟩⟩)))⟩
theorem q_ask {Q : Nat → Prop} {n : Nat} {cells : List Value} (h : ElemsQ Q [.i .i64, .i .i64, .s, .s] n cells) : ∃ l : List Asx, l.length = n ∧ cells = gC enA l ∧ ∀ a ∈ l, (I64 a.k ∧ I64 a.n) ∧ Q a.f.n.length ∧ Q a.f.v.length := by
  obtain ⟨l, h1, h2, h3⟩ := h.data (α := Asx) enA (fun a => (I64 a.k ∧ I64 a.n) ∧ Q a.f.n.length ∧ Q a.f.v.length) (fun c hc => by
    match c, hc with
    | [x, y, z, w], hc =>
      obtain ⟨c1, c2, c3, c4, _⟩ := hc
      obtain ⟨k, rfl, w1⟩ := cq_i c1
      obtain ⟨n, rfl, w2⟩ := cq_i c2
      obtain ⟨s, rfl, w3, b3⟩ := cq_s c3
      obtain ⟨t, rfl, w4, b4⟩ := cq_s c4
      exact ⟨⟨k, n, ⟨L s, L t⟩⟩, rfl, ⟨Sy.wf64 w1, Sy.wf64 w2⟩, b3, b4⟩)
  exact ⟨l, h1, h2, h3⟩
theorem Tw_law (most : Int) (l : List Asx) (hm : I64 most) (hl : l.length ≤ 1048576) (h : ∀ a ∈ l, (I64 a.k ∧ I64 a.n) ∧ a.f.n.length ≤ 1048576 ∧ a.f.v.length ≤ 1048576) : Con Try.prog 6 [.int .i64 most, .slice (some ⟨0, 0, none⟩) l.length 4] [gRo enA l] (.bool true) [gRo enA l] := Tw_con most l hm hl fun a ha => (h a ha).2
end Go.Proofs.Ytpfigiokmcojeaa.tb
