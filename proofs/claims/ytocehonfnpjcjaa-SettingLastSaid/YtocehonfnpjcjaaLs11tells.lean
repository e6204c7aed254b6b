/- The law of settings told to a set. -/
import Derived.Test.YtocehonfnpjcjaaSz9
import Derived.Test.YtocehonfnpjcjaaRows
import Derived.Test.YtocehonfnpjcjaaLs11ap2
set_option linter.unusedSimpArgs false
set_option linter.unusedVariables false
namespace Go.Proofs.Ytocehonfnpjcjaa.s11
open Go Go.Ev Go.Sy Go.RowKit Go.Proofs.Ytocehonfnpjcjaa.gl
def dSe (r : Row) : List Se := s11b.dSe r
def IsSe (r : Row) (n : Nat) : Prop := s11b.IsSe r n
noncomputable def appI (a b c d e : Int) (r : Row) : St := appSt ⟨a, b, c, d, e⟩ (dSe r)
noncomputable def errI (r : Row) : Int := errL (dSe r)
def roomL (l : List Se) (i v : Int) : List Se := l ++ List.replicate 80 ⟨i, v⟩
def roomC (r : Row) (i v : Int) : List Value := gC seC (roomL (dSe r) i v)
noncomputable def intB (r0 r1 : Row) (i v : Int) : Bool := s11b.sameSe (dSe r0) (dSe r1 ++ List.replicate 80 ⟨i, v⟩)
noncomputable def cT : FuncId → List Value → List Row → Option (Prop × Value × List Row)
  | 9, [.agg ⟨[.int .i64 a, .int .i64 b, .int .i64 c, .int .i64 d, .int .i64 e]⟩, .slice (some ⟨0, 0, none⟩) n 2], [r0] => some (IsSe r0 n ∧ n ≤ maxLen, .tuple #[stV (appI a b c d e r0), .int .i64 (errI r0)], [])
  | 15, [.agg ⟨[.int .i64 a, .int .i64 b, .int .i64 c, .int .i64 d, .int .i64 e]⟩, .slice (some ⟨0, 0, none⟩) n 2], [r0] => some (IsSe r0 n ∧ n ≤ maxLen, .tuple #[stV (appI a b c d e r0), .int .i64 (errI r0)], [])
  | 11, [.agg ⟨[.int .i64 i, .int .i64 v]⟩], [] => some (True, .int .i64 (vlI i v), [])
  | 16, [.agg ⟨[.int .i64 i, .int .i64 v]⟩], [] => some (True, .int .i64 (vlI i v), [])
  | 14, [.slice (some ⟨0, 0, none⟩) n 2, .agg ⟨[.int .i64 i, .int .i64 v]⟩], [r0] => some (IsSe r0 n ∧ n ≤ 16777136, .slice (some ⟨1, 0, none⟩) (n + 80) 2, [⟨roomC r0 i v, false, .cells true⟩])
  | 17, [.slice (some ⟨0, 0, none⟩) n 2, .slice (some ⟨1, 0, none⟩) m 2, .agg ⟨[.int .i64 i, .int .i64 v]⟩], [r0, r1] => some (IsSe r0 n ∧ IsSe r1 m ∧ n ≤ maxLen ∧ m ≤ 16777136, .bool (intB r0 r1 i v), [])
  | 3, [], [] => some (True, .bool true, [])
  | _, _, _ => none
def kT (f : FuncId) : Bool := Nat.beq f 9 || Nat.beq f 15 || Nat.beq f 11 || Nat.beq f 16 || Nat.beq f 14 || Nat.beq f 17 || Nat.beq f 3
noncomputable abbrev ET : Env := envC Try.prog cT kT
structure GT where
  l : List Se
  n : Nat
  x : St
def tk (g : GT) : List Se := g.l.take g.n
noncomputable def apA (g : GT) : Int := (appSt g.x (tk g)).a
def pT : List Nat := [0, 1, 0, 1, 1, 1, 1, 1]
noncomputable def slT (g : GT) (i : Nat) : List (Nat × Value) := [(1, .slice (some ⟨0, 0, none⟩) g.n 2), (5, .slice (some ⟨1, 0, none⟩) (g.n + 80) 2), (6, .pointer (some ⟨2, 0, none⟩)), (7, .int .i64 (errL (tk g))), (8, .pointer (some ⟨3, 0, none⟩)), (9, .int .i64 (errL (tk g))), (10, .int .i64 (i : Nat))]
noncomputable def slT2 (g : GT) : List (Nat × Value) := [(1, .slice (some ⟨0, 0, none⟩) g.n 2), (5, .slice (some ⟨1, 0, none⟩) (g.n + 80) 2), (6, .pointer (some ⟨2, 0, none⟩)), (7, .int .i64 (errL (tk g))), (8, .pointer (some ⟨3, 0, none⟩)), (9, .int .i64 (errL (tk g)))]
noncomputable def rlT (g : GT) : List (Nat × Row) := [(0, gRo seC g.l), (1, gOwn seC (roomL (tk g) 99 0)), (2, stRow (appSt g.x (tk g))), (3, stRow (appSt g.x (tk g)))]
noncomputable def wsT (g : GT) : List (Gate Unit) := [⟨.exit 0, fun _ => True, fun _ => slT2 g, fun _ => rlT g, 4⟩]
noncomputable def specT : Sy.Spec := specOf 1 4 68 (fun g : GT => g.n ≤ 60 ∧ g.n ≤ g.l.length) (fun g => slT g 0) (fun g => rlT g) wsT
noncomputable def mT := mOf [(4, pT, specT)]
theorem t_round (g : GT) (i : Nat) (Inv : Nat → Prop) (m : Nat → Nat) : mev ET noM 60 4 (0 :: pT) false (codeOf Try.prog 4 (0 :: pT)) ⟨mkOv (slT g i), 68, []⟩ none ⟨mkR (rlT g), 4⟩ (roundK 1 4 68 Inv m (slT g) (fun _ => rlT g) (wsT g) i) =
  (br (decide ((↑i : Int) < Int.ofNat g.2))
   (br (decide ((0 : Int) ≤ (↑i : Int) ∧ (↑i : Int) < (↑g.2 : Int)))
    ((Eq (α := Option Value) ((gC seC g.1)[(0 : Nat) + Int.toNat (↑i : Int) * (2 : Nat)]?) (some (Value.int IntKind.i64 (cellI (gC seC g.1) ((0 : Nat) + Int.toNat (↑i : Int) * (2 : Nat)))))) ∧
    ((Eq (α := Option Value) ((gC seC g.1)[(0 : Nat) + Int.toNat (↑i : Int) * (2 : Nat) + (1 : Nat)]?) (some (Value.int IntKind.i64 (cellI (gC seC g.1) ((0 : Nat) + Int.toNat (↑i : Int) * (2 : Nat) + (1 : Nat)))))) ∧
    (((((True ∧ (True ∧ True)) ∧ True) ∧ (True ∧ True))) ∧
    (br (decide ((0 : Int) ≤ (↑i : Int) ∧ (↑i : Int) < (↑g.2 : Int)))
     ((Eq (α := Option Value) ((gC seC g.1)[(0 : Nat) + Int.toNat (↑i : Int) * (2 : Nat)]?) (some (Value.int IntKind.i64 (cellI (gC seC g.1) ((0 : Nat) + Int.toNat (↑i : Int) * (2 : Nat)))))) ∧
     ((Eq (α := Option Value) ((gC seC g.1)[(0 : Nat) + Int.toNat (↑i : Int) * (2 : Nat) + (1 : Nat)]?) (some (Value.int IntKind.i64 (cellI (gC seC g.1) ((0 : Nat) + Int.toNat (↑i : Int) * (2 : Nat) + (1 : Nat)))))) ∧
     (((((True ∧ (True ∧ True)) ∧ True) ∧ (True ∧ True))) ∧
     ((Eq (α := Option Value) ((gC seC g.1)[(0 : Nat) + Int.toNat (↑i : Int) * (2 : Nat)]?) (some (Value.int IntKind.i64 (cellI (gC seC g.1) ((0 : Nat) + Int.toNat (↑i : Int) * (2 : Nat)))))) ∧
     ((Eq (α := Option Value) ((gC seC g.1)[(0 : Nat) + Int.toNat (↑i : Int) * (2 : Nat) + (1 : Nat)]?) (some (Value.int IntKind.i64 (cellI (gC seC g.1) ((0 : Nat) + Int.toNat (↑i : Int) * (2 : Nat) + (1 : Nat)))))) ∧
     ((Value.agg (Array.mk [Value.int IntKind.i64 (cellI (gC seC g.1) ((0 : Nat) + Int.toNat (↑i : Int) * (2 : Nat))), Value.int IntKind.i64 (cellI (gC seC g.1) ((0 : Nat) + Int.toNat (↑i : Int) * (2 : Nat) + (1 : Nat)))]) = Value.agg (Array.mk [Value.int IntKind.i64 (cellI (gC seC g.1) ((0 : Nat) + Int.toNat (↑i : Int) * (2 : Nat))), Value.int IntKind.i64 (cellI (gC seC g.1) ((0 : Nat) + Int.toNat (↑i : Int) * (2 : Nat) + (1 : Nat)))])) ∧
     ((Eq (α := Option Value) ((gC seC g.1)[(0 : Nat) + Int.toNat (↑i : Int) * (2 : Nat)]?) (some (Value.int IntKind.i64 (cellI (gC seC g.1) ((0 : Nat) + Int.toNat (↑i : Int) * (2 : Nat)))))) ∧
     ((Eq (α := Option Value) ((gC seC g.1)[(0 : Nat) + Int.toNat (↑i : Int) * (2 : Nat) + (1 : Nat)]?) (some (Value.int IntKind.i64 (cellI (gC seC g.1) ((0 : Nat) + Int.toNat (↑i : Int) * (2 : Nat) + (1 : Nat)))))) ∧
     ((Value.agg (Array.mk [Value.int IntKind.i64 (cellI (gC seC g.1) ((0 : Nat) + Int.toNat (↑i : Int) * (2 : Nat))), Value.int IntKind.i64 (cellI (gC seC g.1) ((0 : Nat) + Int.toNat (↑i : Int) * (2 : Nat) + (1 : Nat)))]) = Value.agg (Array.mk [Value.int IntKind.i64 (cellI (gC seC g.1) ((0 : Nat) + Int.toNat (↑i : Int) * (2 : Nat))), Value.int IntKind.i64 (cellI (gC seC g.1) ((0 : Nat) + Int.toNat (↑i : Int) * (2 : Nat) + (1 : Nat)))])) ∧
     ((Eq (α := Option Value) ((gC seC g.1)[(0 : Nat) + Int.toNat (↑i : Int) * (2 : Nat)]?) (some (Value.int IntKind.i64 (cellI (gC seC g.1) ((0 : Nat) + Int.toNat (↑i : Int) * (2 : Nat)))))) ∧
     ((Eq (α := Option Value) ((gC seC g.1)[(0 : Nat) + Int.toNat (↑i : Int) * (2 : Nat) + (1 : Nat)]?) (some (Value.int IntKind.i64 (cellI (gC seC g.1) ((0 : Nat) + Int.toNat (↑i : Int) * (2 : Nat) + (1 : Nat)))))) ∧
     ((Value.agg (Array.mk [Value.int IntKind.i64 (cellI (gC seC g.1) ((0 : Nat) + Int.toNat (↑i : Int) * (2 : Nat))), Value.int IntKind.i64 (cellI (gC seC g.1) ((0 : Nat) + Int.toNat (↑i : Int) * (2 : Nat) + (1 : Nat)))]) = Value.agg (Array.mk [Value.int IntKind.i64 (cellI (gC seC g.1) ((0 : Nat) + Int.toNat (↑i : Int) * (2 : Nat))), Value.int IntKind.i64 (cellI (gC seC g.1) ((0 : Nat) + Int.toNat (↑i : Int) * (2 : Nat) + (1 : Nat)))])) ∧
     (br (vlI (cellI (gC seC g.1) ((0 : Nat) + Int.toNat (↑i : Int) * (2 : Nat))) (cellI (gC seC g.1) ((0 : Nat) + Int.toNat (↑i : Int) * (2 : Nat) + (1 : Nat))) != vlI (cellI (gC seC g.1) ((0 : Nat) + Int.toNat (↑i : Int) * (2 : Nat))) (cellI (gC seC g.1) ((0 : Nat) + Int.toNat (↑i : Int) * (2 : Nat) + (1 : Nat))))
      False
      (∃ j : Nat, ((Inv j) ∧
      ((m j < m i) ∧
      (((0 : Nat) = (0 : Nat)) ∧
      ((g.2 = g.2) ∧
      (((0 : Nat) = (0 : Nat)) ∧
      ((g.2 + (80 : Nat) = g.2 + (80 : Nat)) ∧
      (((0 : Nat) = (0 : Nat)) ∧
      ((errL (tk g) = errL (tk g)) ∧
      (((0 : Nat) = (0 : Nat)) ∧
      ((errL (tk g) = errL (tk g)) ∧
      (((↑j : Int) = IntKind.wrap IntKind.i64 ((↑i : Int) + (1 : Int))) ∧
      ((Eq (α := List Value) (gC seC g.1) (gC seC g.1)) ∧
      ((Plain (gC seC g.1)) ∧
      ((Eq (α := List Value) (gC seC (roomL (tk g) (99 : Int) (0 : Int))) (gC seC (roomL (tk g) (99 : Int) (0 : Int)))) ∧
      ((Plain (gC seC (roomL (tk g) (99 : Int) (0 : Int)))) ∧
      (((appSt (GT.x g) (tk g)).1 = (appSt (GT.x g) (tk g)).1) ∧
      (((appSt (GT.x g) (tk g)).2 = (appSt (GT.x g) (tk g)).2) ∧
      (((appSt (GT.x g) (tk g)).3 = (appSt (GT.x g) (tk g)).3) ∧
      (((appSt (GT.x g) (tk g)).4 = (appSt (GT.x g) (tk g)).4) ∧
      (((appSt (GT.x g) (tk g)).5 = (appSt (GT.x g) (tk g)).5) ∧
      (((appSt (GT.x g) (tk g)).1 = (appSt (GT.x g) (tk g)).1) ∧
      (((appSt (GT.x g) (tk g)).2 = (appSt (GT.x g) (tk g)).2) ∧
      (((appSt (GT.x g) (tk g)).3 = (appSt (GT.x g) (tk g)).3) ∧
      (((appSt (GT.x g) (tk g)).4 = (appSt (GT.x g) (tk g)).4) ∧
      (((appSt (GT.x g) (tk g)).5 = (appSt (GT.x g) (tk g)).5) ∧
      True)))))))))))))))))))))))))))))))))))))))
     False))))
    False)
   (∃ y : Unit, ((True) ∧
   (((0 : Nat) = (0 : Nat)) ∧
   ((g.2 = g.2) ∧
   (((0 : Nat) = (0 : Nat)) ∧
   ((g.2 + (80 : Nat) = g.2 + (80 : Nat)) ∧
   (((0 : Nat) = (0 : Nat)) ∧
   ((errL (tk g) = errL (tk g)) ∧
   (((0 : Nat) = (0 : Nat)) ∧
   ((errL (tk g) = errL (tk g)) ∧
   ((Eq (α := List Value) (gC seC g.1) (gC seC g.1)) ∧
   ((Plain (gC seC g.1)) ∧
   ((Eq (α := List Value) (gC seC (roomL (tk g) (99 : Int) (0 : Int))) (gC seC (roomL (tk g) (99 : Int) (0 : Int)))) ∧
   ((Plain (gC seC (roomL (tk g) (99 : Int) (0 : Int)))) ∧
   (((appSt (GT.x g) (tk g)).1 = (appSt (GT.x g) (tk g)).1) ∧
   (((appSt (GT.x g) (tk g)).2 = (appSt (GT.x g) (tk g)).2) ∧
   (((appSt (GT.x g) (tk g)).3 = (appSt (GT.x g) (tk g)).3) ∧
   (((appSt (GT.x g) (tk g)).4 = (appSt (GT.x g) (tk g)).4) ∧
   (((appSt (GT.x g) (tk g)).5 = (appSt (GT.x g) (tk g)).5) ∧
   (((appSt (GT.x g) (tk g)).1 = (appSt (GT.x g) (tk g)).1) ∧
   (((appSt (GT.x g) (tk g)).2 = (appSt (GT.x g) (tk g)).2) ∧
   (((appSt (GT.x g) (tk g)).3 = (appSt (GT.x g) (tk g)).3) ∧
   (((appSt (GT.x g) (tk g)).4 = (appSt (GT.x g) (tk g)).4) ∧
   (((appSt (GT.x g) (tk g)).5 = (appSt (GT.x g) (tk g)).5) ∧
   True))))))))))))))))))))))))) := by kernel_rfl
theorem tells_vc (x : St) (l : List Se) : mcall ET mT 60 4 [stV x, .slice (some ⟨0, 0, none⟩) l.length 2] ⟨mkR (nums 0 [gRo seC l]), 1⟩ (retIs 1 (.bool true) [gRo seC l]) =
  (br (decide (Int.ofNat (List.length l) > (60 : Int)))
   (br (decide ((0 : Int) ≤ (↑(0 : Nat) : Int) ∧ (↑(0 : Nat) : Int) ≤ (60 : Int) ∧ (60 : Int) ≤ (↑(List.length l) : Int)))
    ((((((120 : Nat) ≤ List.length (gC seC l) ∧ Plain (List.take (120 : Nat) (List.drop (0 : Nat) (gC seC l)))) ∧ ((True ∧ (True ∧ True)) ∧ True)) ∧ ((Plain (roomC (Row.mk (List.take (120 : Nat) (List.drop (0 : Nat) (gC seC l))) true (Ob.cells true)) (99 : Int) (0 : Int)) ∧ True) ∧ (IsSe (Row.mk (List.take (120 : Nat) (List.drop (0 : Nat) (gC seC l))) true (Ob.cells true)) (60 : Nat) ∧ Int.toNat (60 : Int) - Int.toNat (↑(0 : Nat) : Int) ≤ (16777136 : Nat))))) ∧
    (((((True ∧ (True ∧ (True ∧ (True ∧ (True ∧ True))))) ∧ (((120 : Nat) ≤ List.length (roomC (Row.mk (List.take (120 : Nat) (List.drop (0 : Nat) (gC seC l))) true (Ob.cells true)) (99 : Int) (0 : Int)) ∧ Plain (List.take (120 : Nat) (List.drop (0 : Nat) (roomC (Row.mk (List.take (120 : Nat) (List.drop (0 : Nat) (gC seC l))) true (Ob.cells true)) (99 : Int) (0 : Int))))) ∧ True)) ∧ (True ∧ (IsSe (Row.mk (List.take (120 : Nat) (List.drop (0 : Nat) (roomC (Row.mk (List.take (120 : Nat) (List.drop (0 : Nat) (gC seC l))) true (Ob.cells true)) (99 : Int) (0 : Int)))) true (Ob.cells true)) (60 : Nat) ∧ Int.toNat (Int.ofNat (Int.toNat (60 : Int) - Int.toNat (↑(0 : Nat) : Int))) - Int.toNat (↑(0 : Nat) : Int) ≤ maxLen)))) ∧
    ((Value.agg (Array.mk [Value.int IntKind.i64 x.1, Value.int IntKind.i64 x.2, Value.int IntKind.i64 x.3, Value.int IntKind.i64 x.4, Value.int IntKind.i64 x.5]) = Value.agg (Array.mk [Value.int IntKind.i64 x.1, Value.int IntKind.i64 x.2, Value.int IntKind.i64 x.3, Value.int IntKind.i64 x.4, Value.int IntKind.i64 x.5])) ∧
    ((Value.slice (some (Addr.mk (2 : Nat) (0 : Nat) none)) (60 : Nat) (2 : Nat) = Value.slice (some (Addr.mk (2 : Nat) (0 : Nat) none)) (60 : Nat) (2 : Nat)) ∧
    (((((True ∧ (True ∧ (True ∧ (True ∧ (True ∧ True))))) ∧ (((120 : Nat) ≤ List.length (gC seC l) ∧ Plain (List.take (120 : Nat) (List.drop (0 : Nat) (gC seC l)))) ∧ True)) ∧ (True ∧ (IsSe (Row.mk (List.take (120 : Nat) (List.drop (0 : Nat) (gC seC l))) true (Ob.cells true)) (60 : Nat) ∧ Int.toNat (60 : Int) - Int.toNat (↑(0 : Nat) : Int) ≤ maxLen)))) ∧
    (∃ g : GT, ((g.2 ≤ (60 : Nat) ∧ g.2 ≤ List.length g.1) ∧
    (((0 : Nat) = (0 : Nat)) ∧
    ((g.2 = (60 : Nat)) ∧
    (((0 : Nat) = (0 : Nat)) ∧
    ((g.2 + (80 : Nat) = (140 : Nat)) ∧
    (((0 : Nat) = (0 : Nat)) ∧
    ((errL (tk g) = errI (Row.mk (List.take (120 : Nat) (List.drop (0 : Nat) (roomC (Row.mk (List.take (120 : Nat) (List.drop (0 : Nat) (gC seC l))) true (Ob.cells true)) (99 : Int) (0 : Int)))) true (Ob.cells true))) ∧
    (((0 : Nat) = (0 : Nat)) ∧
    ((errL (tk g) = errI (Row.mk (List.take (120 : Nat) (List.drop (0 : Nat) (gC seC l))) true (Ob.cells true))) ∧
    (((0 : Int) = (0 : Int)) ∧
    ((Eq (α := List Value) (gC seC g.1) (gC seC l)) ∧
    ((Plain (gC seC g.1)) ∧
    ((Eq (α := List Value) (gC seC (roomL (tk g) (99 : Int) (0 : Int))) (roomC (Row.mk (List.take (120 : Nat) (List.drop (0 : Nat) (gC seC l))) true (Ob.cells true)) (99 : Int) (0 : Int))) ∧
    ((Plain (gC seC (roomL (tk g) (99 : Int) (0 : Int)))) ∧
    (((appSt (GT.x g) (tk g)).1 = (appI x.1 x.2 x.3 x.4 x.5 (Row.mk (List.take (120 : Nat) (List.drop (0 : Nat) (roomC (Row.mk (List.take (120 : Nat) (List.drop (0 : Nat) (gC seC l))) true (Ob.cells true)) (99 : Int) (0 : Int)))) true (Ob.cells true))).1) ∧
    (((appSt (GT.x g) (tk g)).2 = (appI x.1 x.2 x.3 x.4 x.5 (Row.mk (List.take (120 : Nat) (List.drop (0 : Nat) (roomC (Row.mk (List.take (120 : Nat) (List.drop (0 : Nat) (gC seC l))) true (Ob.cells true)) (99 : Int) (0 : Int)))) true (Ob.cells true))).2) ∧
    (((appSt (GT.x g) (tk g)).3 = (appI x.1 x.2 x.3 x.4 x.5 (Row.mk (List.take (120 : Nat) (List.drop (0 : Nat) (roomC (Row.mk (List.take (120 : Nat) (List.drop (0 : Nat) (gC seC l))) true (Ob.cells true)) (99 : Int) (0 : Int)))) true (Ob.cells true))).3) ∧
    (((appSt (GT.x g) (tk g)).4 = (appI x.1 x.2 x.3 x.4 x.5 (Row.mk (List.take (120 : Nat) (List.drop (0 : Nat) (roomC (Row.mk (List.take (120 : Nat) (List.drop (0 : Nat) (gC seC l))) true (Ob.cells true)) (99 : Int) (0 : Int)))) true (Ob.cells true))).4) ∧
    (((appSt (GT.x g) (tk g)).5 = (appI x.1 x.2 x.3 x.4 x.5 (Row.mk (List.take (120 : Nat) (List.drop (0 : Nat) (roomC (Row.mk (List.take (120 : Nat) (List.drop (0 : Nat) (gC seC l))) true (Ob.cells true)) (99 : Int) (0 : Int)))) true (Ob.cells true))).5) ∧
    (((appSt (GT.x g) (tk g)).1 = (appI x.1 x.2 x.3 x.4 x.5 (Row.mk (List.take (120 : Nat) (List.drop (0 : Nat) (gC seC l))) true (Ob.cells true))).1) ∧
    (((appSt (GT.x g) (tk g)).2 = (appI x.1 x.2 x.3 x.4 x.5 (Row.mk (List.take (120 : Nat) (List.drop (0 : Nat) (gC seC l))) true (Ob.cells true))).2) ∧
    (((appSt (GT.x g) (tk g)).3 = (appI x.1 x.2 x.3 x.4 x.5 (Row.mk (List.take (120 : Nat) (List.drop (0 : Nat) (gC seC l))) true (Ob.cells true))).3) ∧
    (((appSt (GT.x g) (tk g)).4 = (appI x.1 x.2 x.3 x.4 x.5 (Row.mk (List.take (120 : Nat) (List.drop (0 : Nat) (gC seC l))) true (Ob.cells true))).4) ∧
    (((appSt (GT.x g) (tk g)).5 = (appI x.1 x.2 x.3 x.4 x.5 (Row.mk (List.take (120 : Nat) (List.drop (0 : Nat) (gC seC l))) true (Ob.cells true))).5) ∧
    (∀ (y : Unit), ((True) →
    (br ((appSt (GT.x g) (tk g)).1 == (appSt (GT.x g) (tk g)).1 && ((appSt (GT.x g) (tk g)).2 == (appSt (GT.x g) (tk g)).2 && ((appSt (GT.x g) (tk g)).3 == (appSt (GT.x g) (tk g)).3 && ((appSt (GT.x g) (tk g)).4 == (appSt (GT.x g) (tk g)).4 && ((appSt (GT.x g) (tk g)).5 == (appSt (GT.x g) (tk g)).5 && true)))))
     (br (errL (tk g) == errL (tk g))
      ((((((0 : Nat) + (g.2 + (80 : Nat)) * (2 : Nat) ≤ List.length (gC seC (roomL (tk g) (99 : Int) (0 : Int))) ∧ Plain (List.take ((g.2 + (80 : Nat)) * (2 : Nat)) (List.drop (0 : Nat) (gC seC (roomL (tk g) (99 : Int) (0 : Int)))))) ∧ (((0 : Nat) + g.2 * (2 : Nat) ≤ List.length (gC seC g.1) ∧ Plain (List.take (g.2 * (2 : Nat)) (List.drop (0 : Nat) (gC seC g.1)))) ∧ ((True ∧ (True ∧ True)) ∧ True))) ∧ (True ∧ (IsSe (Row.mk (List.take ((g.2 + (80 : Nat)) * (2 : Nat)) (List.drop (0 : Nat) (gC seC (roomL (tk g) (99 : Int) (0 : Int))))) true (Ob.cells true)) (g.2 + (80 : Nat)) ∧ (IsSe (Row.mk (List.take (g.2 * (2 : Nat)) (List.drop (0 : Nat) (gC seC g.1))) true (Ob.cells true)) g.2 ∧ (g.2 + (80 : Nat) ≤ (9223372036854775807 : Nat) ∧ g.2 ≤ (16777136 : Nat))))))) ∧
      (br (intB (Row.mk (List.take ((g.2 + (80 : Nat)) * (2 : Nat)) (List.drop (0 : Nat) (gC seC (roomL (tk g) (99 : Int) (0 : Int))))) true (Ob.cells true)) (Row.mk (List.take (g.2 * (2 : Nat)) (List.drop (0 : Nat) (gC seC g.1))) true (Ob.cells true)) (99 : Int) (0 : Int))
       (((True ∧ (True ∧ True))) ∧
       ((true = true) ∧
       ((Eq (α := List Value) (gC seC l) (gC seC g.1)) ∧
       ((Plain (gC seC l)) ∧
       True))))
       ((true = false) ∧
       ((Eq (α := List Value) (gC seC l) (gC seC g.1)) ∧
       ((Plain (gC seC l)) ∧
       True)))))
      ((true = false) ∧
      ((Eq (α := List Value) (gC seC l) (gC seC g.1)) ∧
      ((Plain (gC seC l)) ∧
      True))))
     ((true = false) ∧
     ((Eq (α := List Value) (gC seC l) (gC seC g.1)) ∧
     ((Plain (gC seC l)) ∧
     True))))))))))))))))))))))))))))))))))))
    False)
   ((((((0 : Nat) + List.length l * (2 : Nat) ≤ List.length (gC seC l) ∧ Plain (List.take (List.length l * (2 : Nat)) (List.drop (0 : Nat) (gC seC l)))) ∧ ((True ∧ (True ∧ True)) ∧ True)) ∧ ((Plain (roomC (Row.mk (List.take (List.length l * (2 : Nat)) (List.drop (0 : Nat) (gC seC l))) true (Ob.cells true)) (99 : Int) (0 : Int)) ∧ True) ∧ (IsSe (Row.mk (List.take (List.length l * (2 : Nat)) (List.drop (0 : Nat) (gC seC l))) true (Ob.cells true)) (List.length l) ∧ List.length l ≤ (16777136 : Nat))))) ∧
   (br (decide ((0 : Int) ≤ (↑(0 : Nat) : Int) ∧ (0 : Int) ≤ Int.ofNat (List.length l) ∧ Int.ofNat (List.length l) ≤ (↑(List.length l + (80 : Nat)) : Int)))
    (((((True ∧ (True ∧ (True ∧ (True ∧ (True ∧ True))))) ∧ (((0 : Nat) + (Int.toNat (Int.ofNat (List.length l)) - (0 : Nat)) * (2 : Nat) ≤ List.length (roomC (Row.mk (List.take (List.length l * (2 : Nat)) (List.drop (0 : Nat) (gC seC l))) true (Ob.cells true)) (99 : Int) (0 : Int)) ∧ Plain (List.take ((Int.toNat (Int.ofNat (List.length l)) - (0 : Nat)) * (2 : Nat)) (List.drop (0 : Nat) (roomC (Row.mk (List.take (List.length l * (2 : Nat)) (List.drop (0 : Nat) (gC seC l))) true (Ob.cells true)) (99 : Int) (0 : Int))))) ∧ True)) ∧ (True ∧ (IsSe (Row.mk (List.take ((Int.toNat (Int.ofNat (List.length l)) - (0 : Nat)) * (2 : Nat)) (List.drop (0 : Nat) (roomC (Row.mk (List.take (List.length l * (2 : Nat)) (List.drop (0 : Nat) (gC seC l))) true (Ob.cells true)) (99 : Int) (0 : Int)))) true (Ob.cells true)) (Int.toNat (Int.ofNat (List.length l)) - (0 : Nat)) ∧ Int.toNat (Int.ofNat (List.length l)) - (0 : Nat) ≤ (9223372036854775807 : Nat))))) ∧
    ((Value.agg (Array.mk [Value.int IntKind.i64 x.1, Value.int IntKind.i64 x.2, Value.int IntKind.i64 x.3, Value.int IntKind.i64 x.4, Value.int IntKind.i64 x.5]) = Value.agg (Array.mk [Value.int IntKind.i64 x.1, Value.int IntKind.i64 x.2, Value.int IntKind.i64 x.3, Value.int IntKind.i64 x.4, Value.int IntKind.i64 x.5])) ∧
    (br (decide ((0 : Int) ≤ (↑(0 : Nat) : Int) ∧ (0 : Int) ≤ Int.ofNat (List.length l) ∧ Int.ofNat (List.length l) ≤ (↑(List.length l + (80 : Nat)) : Int)))
     ((Value.slice (some (Addr.mk (2 : Nat) (0 : Nat) none)) (Int.toNat (Int.ofNat (List.length l)) - (0 : Nat)) (2 : Nat) = Value.slice (some (Addr.mk (2 : Nat) (0 : Nat) none)) (Int.toNat (Int.ofNat (List.length l)) - (0 : Nat)) (2 : Nat)) ∧
     (((((True ∧ (True ∧ (True ∧ (True ∧ (True ∧ True))))) ∧ (((0 : Nat) + List.length l * (2 : Nat) ≤ List.length (gC seC l) ∧ Plain (List.take (List.length l * (2 : Nat)) (List.drop (0 : Nat) (gC seC l)))) ∧ True)) ∧ (True ∧ (IsSe (Row.mk (List.take (List.length l * (2 : Nat)) (List.drop (0 : Nat) (gC seC l))) true (Ob.cells true)) (List.length l) ∧ List.length l ≤ (9223372036854775807 : Nat))))) ∧
     (∃ g : GT, ((g.2 ≤ (60 : Nat) ∧ g.2 ≤ List.length g.1) ∧
     (((0 : Nat) = (0 : Nat)) ∧
     ((g.2 = List.length l) ∧
     (((0 : Nat) = (0 : Nat)) ∧
     ((g.2 + (80 : Nat) = List.length l + (80 : Nat)) ∧
     (((0 : Nat) = (0 : Nat)) ∧
     ((errL (tk g) = errI (Row.mk (List.take ((Int.toNat (Int.ofNat (List.length l)) - (0 : Nat)) * (2 : Nat)) (List.drop (0 : Nat) (roomC (Row.mk (List.take (List.length l * (2 : Nat)) (List.drop (0 : Nat) (gC seC l))) true (Ob.cells true)) (99 : Int) (0 : Int)))) true (Ob.cells true))) ∧
     (((0 : Nat) = (0 : Nat)) ∧
     ((errL (tk g) = errI (Row.mk (List.take (List.length l * (2 : Nat)) (List.drop (0 : Nat) (gC seC l))) true (Ob.cells true))) ∧
     (((0 : Int) = (0 : Int)) ∧
     ((Eq (α := List Value) (gC seC g.1) (gC seC l)) ∧
     ((Plain (gC seC g.1)) ∧
     ((Eq (α := List Value) (gC seC (roomL (tk g) (99 : Int) (0 : Int))) (roomC (Row.mk (List.take (List.length l * (2 : Nat)) (List.drop (0 : Nat) (gC seC l))) true (Ob.cells true)) (99 : Int) (0 : Int))) ∧
     ((Plain (gC seC (roomL (tk g) (99 : Int) (0 : Int)))) ∧
     (((appSt (GT.x g) (tk g)).1 = (appI x.1 x.2 x.3 x.4 x.5 (Row.mk (List.take ((Int.toNat (Int.ofNat (List.length l)) - (0 : Nat)) * (2 : Nat)) (List.drop (0 : Nat) (roomC (Row.mk (List.take (List.length l * (2 : Nat)) (List.drop (0 : Nat) (gC seC l))) true (Ob.cells true)) (99 : Int) (0 : Int)))) true (Ob.cells true))).1) ∧
     (((appSt (GT.x g) (tk g)).2 = (appI x.1 x.2 x.3 x.4 x.5 (Row.mk (List.take ((Int.toNat (Int.ofNat (List.length l)) - (0 : Nat)) * (2 : Nat)) (List.drop (0 : Nat) (roomC (Row.mk (List.take (List.length l * (2 : Nat)) (List.drop (0 : Nat) (gC seC l))) true (Ob.cells true)) (99 : Int) (0 : Int)))) true (Ob.cells true))).2) ∧
     (((appSt (GT.x g) (tk g)).3 = (appI x.1 x.2 x.3 x.4 x.5 (Row.mk (List.take ((Int.toNat (Int.ofNat (List.length l)) - (0 : Nat)) * (2 : Nat)) (List.drop (0 : Nat) (roomC (Row.mk (List.take (List.length l * (2 : Nat)) (List.drop (0 : Nat) (gC seC l))) true (Ob.cells true)) (99 : Int) (0 : Int)))) true (Ob.cells true))).3) ∧
     (((appSt (GT.x g) (tk g)).4 = (appI x.1 x.2 x.3 x.4 x.5 (Row.mk (List.take ((Int.toNat (Int.ofNat (List.length l)) - (0 : Nat)) * (2 : Nat)) (List.drop (0 : Nat) (roomC (Row.mk (List.take (List.length l * (2 : Nat)) (List.drop (0 : Nat) (gC seC l))) true (Ob.cells true)) (99 : Int) (0 : Int)))) true (Ob.cells true))).4) ∧
     (((appSt (GT.x g) (tk g)).5 = (appI x.1 x.2 x.3 x.4 x.5 (Row.mk (List.take ((Int.toNat (Int.ofNat (List.length l)) - (0 : Nat)) * (2 : Nat)) (List.drop (0 : Nat) (roomC (Row.mk (List.take (List.length l * (2 : Nat)) (List.drop (0 : Nat) (gC seC l))) true (Ob.cells true)) (99 : Int) (0 : Int)))) true (Ob.cells true))).5) ∧
     (((appSt (GT.x g) (tk g)).1 = (appI x.1 x.2 x.3 x.4 x.5 (Row.mk (List.take (List.length l * (2 : Nat)) (List.drop (0 : Nat) (gC seC l))) true (Ob.cells true))).1) ∧
     (((appSt (GT.x g) (tk g)).2 = (appI x.1 x.2 x.3 x.4 x.5 (Row.mk (List.take (List.length l * (2 : Nat)) (List.drop (0 : Nat) (gC seC l))) true (Ob.cells true))).2) ∧
     (((appSt (GT.x g) (tk g)).3 = (appI x.1 x.2 x.3 x.4 x.5 (Row.mk (List.take (List.length l * (2 : Nat)) (List.drop (0 : Nat) (gC seC l))) true (Ob.cells true))).3) ∧
     (((appSt (GT.x g) (tk g)).4 = (appI x.1 x.2 x.3 x.4 x.5 (Row.mk (List.take (List.length l * (2 : Nat)) (List.drop (0 : Nat) (gC seC l))) true (Ob.cells true))).4) ∧
     (((appSt (GT.x g) (tk g)).5 = (appI x.1 x.2 x.3 x.4 x.5 (Row.mk (List.take (List.length l * (2 : Nat)) (List.drop (0 : Nat) (gC seC l))) true (Ob.cells true))).5) ∧
     (∀ (y : Unit), ((True) →
     (br ((appSt (GT.x g) (tk g)).1 == (appSt (GT.x g) (tk g)).1 && ((appSt (GT.x g) (tk g)).2 == (appSt (GT.x g) (tk g)).2 && ((appSt (GT.x g) (tk g)).3 == (appSt (GT.x g) (tk g)).3 && ((appSt (GT.x g) (tk g)).4 == (appSt (GT.x g) (tk g)).4 && ((appSt (GT.x g) (tk g)).5 == (appSt (GT.x g) (tk g)).5 && true)))))
      (br (errL (tk g) == errL (tk g))
       ((((((0 : Nat) + (g.2 + (80 : Nat)) * (2 : Nat) ≤ List.length (gC seC (roomL (tk g) (99 : Int) (0 : Int))) ∧ Plain (List.take ((g.2 + (80 : Nat)) * (2 : Nat)) (List.drop (0 : Nat) (gC seC (roomL (tk g) (99 : Int) (0 : Int)))))) ∧ (((0 : Nat) + g.2 * (2 : Nat) ≤ List.length (gC seC g.1) ∧ Plain (List.take (g.2 * (2 : Nat)) (List.drop (0 : Nat) (gC seC g.1)))) ∧ ((True ∧ (True ∧ True)) ∧ True))) ∧ (True ∧ (IsSe (Row.mk (List.take ((g.2 + (80 : Nat)) * (2 : Nat)) (List.drop (0 : Nat) (gC seC (roomL (tk g) (99 : Int) (0 : Int))))) true (Ob.cells true)) (g.2 + (80 : Nat)) ∧ (IsSe (Row.mk (List.take (g.2 * (2 : Nat)) (List.drop (0 : Nat) (gC seC g.1))) true (Ob.cells true)) g.2 ∧ (g.2 + (80 : Nat) ≤ (9223372036854775807 : Nat) ∧ g.2 ≤ (16777136 : Nat))))))) ∧
       (br (intB (Row.mk (List.take ((g.2 + (80 : Nat)) * (2 : Nat)) (List.drop (0 : Nat) (gC seC (roomL (tk g) (99 : Int) (0 : Int))))) true (Ob.cells true)) (Row.mk (List.take (g.2 * (2 : Nat)) (List.drop (0 : Nat) (gC seC g.1))) true (Ob.cells true)) (99 : Int) (0 : Int))
        (((True ∧ (True ∧ True))) ∧
        ((true = true) ∧
        ((Eq (α := List Value) (gC seC l) (gC seC g.1)) ∧
        ((Plain (gC seC l)) ∧
        True))))
        ((true = false) ∧
        ((Eq (α := List Value) (gC seC l) (gC seC g.1)) ∧
        ((Plain (gC seC l)) ∧
        True)))))
       ((true = false) ∧
       ((Eq (α := List Value) (gC seC l) (gC seC g.1)) ∧
       ((Plain (gC seC l)) ∧
       True))))
      ((true = false) ∧
      ((Eq (α := List Value) (gC seC l) (gC seC g.1)) ∧
      ((Plain (gC seC l)) ∧
      True)))))))))))))))))))))))))))))))))
     False)))
    False))) := by kernel_rfl
theorem cT_ok : ∀ f a rows p v news, cT f a rows = some (p, v, news) → p → Con Try.prog f a rows v (rows ++ news) := by
  intro f a rows p v news h hp
  have e : ∀ l, dSe (gRo seC l) = l := fun l => s11b.dSe_mk _ _ _
  unfold cT at h
  split at h <;> simp only [Option.some.injEq, Prod.mk.injEq, reduceCtorEq] at h <;> obtain ⟨rfl, rfl, rfl⟩ := h
  · obtain ⟨⟨l, rfl, rfl⟩, hl⟩ := hp
    simp only [appI, errI, e, List.append_nil]
    exact app_con ⟨_, _, _, _, _⟩ l hl
  · obtain ⟨⟨l, rfl, rfl⟩, hl⟩ := hp
    simp only [appI, errI, e, List.append_nil]
    exact rapp_con ⟨_, _, _, _, _⟩ l hl
  · exact value_con ⟨_, _⟩
  · rename_i i v
    have := rvalue_con ⟨i, v⟩
    rw [← vl_eq] at this
    exact this
  · obtain ⟨⟨l, rfl, rfl⟩, hl⟩ := hp
    simp only [roomC, e]
    exact s11b.roomy_con l ⟨_, _⟩ hl
  · obtain ⟨⟨x, rfl, rfl⟩, ⟨y, rfl, rfl⟩, h1, h2⟩ := hp
    simp only [intB, e, List.append_nil]
    exact s11b.int_con x y ⟨_, _⟩ h1 (by omega)
  · exact con_run mixed (n := 1000000) (by kernel_rfl) (by kernel_rfl)
theorem t_piece : PieceOk ET 1 (4, pT, specT) := by
  refine piece_loop mixed (calls_envC cT_ok) (lok_envC _ _ _) lm_none (n := 60) (by kernel_rfl) (fun g : GT => (0 : Nat)) (fun g i => i ≤ g.n) (fun g i => g.n - i) (sl := slT) (rl := fun g _ => rlT g) (fun g hg => Nat.zero_le _) (fun g i hg hi => ?_)
  refine (t_round g i _ _).mpr ?_
  obtain ⟨h1, h2⟩ := hg
  simp only [ofNat_eq, toNat_cast, Nat.zero_add, Nat.add_zero, Nat.mul_one, List.drop_zero, bCells_len, bCells_drop, bCells_take, bCells_app, bCells_one, bCells_plain, List.length_replicate, List.length_append, List.length_take, List.length_drop, List.take_length, and_true, true_and, and_self, decide_true, List.length_nil, List.length_cons, Nat.sub_zero, dB_mk, dB_ro, List.take_zero, s11b.sePl]
  refine br_if (fun h => br_dec (by omega) ?_) (fun h => ⟨(), trivial⟩)
  obtain ⟨c1, c2, c3, c4⟩ := s11b.seGet g.l i (by omega)
  simp only [c1, c2, c3, c4, true_and]
  exact br_dec (by omega) (br_nb (by simp) ⟨i + 1, by omega, by omega, (i64_succ (by omega)).symm⟩)
theorem roomL_len (l : List Se) (i v : Int) : (roomL l i v).length = l.length + 80 := by simp [roomL]
theorem roomL_take (l : List Se) (i v : Int) : (roomL l i v).take l.length = l := by simp [roomL]
theorem tells_law (x : St) (l : List Se) (hl : l.length ≤ maxLen) (_ : ∀ s ∈ l, True) : Con Try.prog 4 [stV x, .slice (some ⟨0, 0, none⟩) l.length 2] [gRo seC l] (.bool true) [gRo seC l] := by
  refine con_vc (E := ET) mixed (calls_envC cT_ok) (lok_envC _ _ _) (M := mT) (lm_one t_piece) (tells_vc x l) ?_
  have hm : maxLen = 9223372036854775807 := by unfold maxLen; rfl
  have e : ∀ l b o, dSe ⟨gC seC l, b, o⟩ = l := fun l b o => s11b.dSe_mk _ _ _
  have hi : ∀ l n, n = l.length → IsSe ⟨gC seC l, true, .cells true⟩ n := fun l n h => ⟨l, rfl, h⟩
  have t60 : (gC seC l).take 120 = gC seC (l.take 60) := gC_take s11b.seK l 60
  have tl : ∀ l : List Se, (gC seC l).take (l.length * 2) = gC seC l := fun l => List.take_of_length_le (by rw [s11b.seL]; omega)
  have tr : ∀ l : List Se, ∀ n i v, n = l.length → (gC seC (roomL l i v)).take (n * 2) = gC seC l := fun l n i v h => by subst h; rw [gC_take s11b.seK, roomL_take]
  have ap : ∀ x r, appI x.a x.b x.c x.d x.e r = appSt x (dSe r) := fun x r => rfl
  simp only [ofNat_eq, toNat_cast, Nat.zero_add, Nat.add_zero, Nat.mul_one, List.drop_zero, bCells_len, bCells_drop, bCells_take, bCells_app, bCells_one, bCells_plain, List.length_replicate, List.length_append, List.length_take, List.length_drop, List.take_length, and_true, true_and, and_self, decide_true, List.length_nil, List.length_cons, Nat.sub_zero, dB_mk, dB_ro, List.take_zero, s11b.sePl, s11b.seL, e, t60, tl, roomC, roomL_len, errI, ap]
  have h120 : ∀ l : List Se, l.length = 60 → ((gC seC (roomL l 99 0)).take 120) = gC seC l := fun l h => tr l 60 99 0 h.symm
  have F1 : ∀ n, n ≤ l.length → (gC seC (roomL (l.take n) 99 0)).take ((n + 80) * 2) = gC seC (roomL (l.take n) 99 0) := fun n h => List.take_of_length_le (by rw [s11b.seL, roomL_len]; simp; omega)
  have F2 : ∀ n, (gC seC l).take (n * 2) = gC seC (l.take n) := fun n => gC_take s11b.seK l n
  have F3 : ∀ n, intB ⟨gC seC (roomL (l.take n) 99 0), true, .cells true⟩ ⟨gC seC (l.take n), true, .cells true⟩ 99 0 = true := fun n => s11b.sameSe_yes (by rw [e, e]; rfl)
  have tk' : ∀ n, tk ⟨l, n, x⟩ = l.take n := fun n => rfl
  refine br_if (fun h => ?_) (fun h => ?_)
  · have h6 : (l.take 60).length = 60 := by simp; omega
    simp only [h120 _ h6, e]
    refine br_dec (by omega) ⟨⟨by omega, hi _ _ h6.symm, by decide⟩, ⟨⟨by omega, s11b.sePl _⟩, hi _ _ h6.symm, by decide⟩, ⟨by omega, hi _ _ h6.symm, by decide⟩, ⟨l, 60, x⟩, ⟨by simp only; omega, by simp only; omega⟩, rfl, rfl, rfl, rfl, rfl, rfl, rfl, rfl, rfl, rfl, rfl, rfl, rfl, rfl, rfl, rfl, fun _ _ => ?_⟩
    simp only [tk', F1 60 (by omega), F2, F3, s11b.sePl]
    refine br_b (by simp) (br_b (by simp) ⟨⟨⟨⟨by simp; omega, trivial⟩, by omega, trivial⟩, hi _ _ (by rw [roomL_len]; omega), hi _ _ (by omega), by omega, by omega⟩, br_b rfl trivial⟩)
  · have h6 : l.take l.length = l := List.take_length
    have hI : (l.length : Int).toNat = l.length := Int.toNat_natCast _
    simp only [hI, tr l _ 99 0 rfl, e]
    have htk : tk ⟨l, l.length, x⟩ = l := h6
    have G1 := F1 l.length (Nat.le_refl _)
    have G2 := F2 l.length
    have G3 := F3 l.length
    rw [h6] at G1 G2 G3
    refine ⟨⟨by omega, hi _ _ rfl, by omega⟩, br_dec (by omega) ⟨⟨⟨by omega, s11b.sePl _⟩, hi _ _ rfl, by omega⟩, br_dec (by omega) ⟨⟨by omega, hi _ _ rfl, by omega⟩, ⟨l, l.length, x⟩, ⟨by simp only; omega, Nat.le_refl _⟩, rfl, rfl, ?_⟩⟩⟩
    simp only [htk, G1, G2, G3, s11b.sePl, true_and]
    refine fun _ _ => br_b (by simp) (br_b (by simp) ⟨⟨⟨⟨by omega, trivial⟩, by omega, trivial⟩, hi _ _ (by rw [roomL_len]), hi _ _ rfl, by omega, by omega⟩, br_b rfl trivial⟩)
theorem elems_se {n : Nat} {cells : List Value} (h : Elems [.i .i64, .i .i64] n cells) : ∃ l : List Se, l.length = n ∧ cells = gC seC l ∧ ∀ a ∈ l, True := by
  obtain ⟨l, h1, h2, _⟩ := h.data (α := Se) seC (fun _ => True) (fun c hc => by
    match c, hc with
    | [.int k x, .int k2 y], hc =>
      obtain ⟨⟨rfl, _⟩, ⟨rfl, _⟩, _⟩ := hc
      exact ⟨⟨x, y⟩, rfl, trivial⟩)
  exact ⟨l, h1, h2, fun _ _ => trivial⟩
theorem st_open {cs : List Value} (h : Cells [.i .i64, .i .i64, .i .i64, .i .i64, .i .i64] cs) : ∃ x : St, cs = stC x := by
  match cs, h with
  | [.int _ a, .int _ b, .int _ c, .int _ d, .int _ e], h =>
    obtain ⟨⟨rfl, _⟩, ⟨rfl, _⟩, ⟨rfl, _⟩, ⟨rfl, _⟩, ⟨rfl, _⟩, _⟩ := h
    exact ⟨⟨a, b, c, d, e⟩, rfl⟩
end Go.Proofs.Ytocehonfnpjcjaa.s11
