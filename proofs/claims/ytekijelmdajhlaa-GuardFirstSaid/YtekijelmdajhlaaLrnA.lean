/- Steps: what the law tells of them. -/
import Derived.Test.YtekijelmdajhlaaSz9
import Derived.Test.YtekijelmdajhlaaRows
import Derived.Test.YtekijelmdajhlaaLwit
import Derived.Test.YtekijelmdajhlaaLints
set_option linter.unusedSimpArgs false
set_option linter.unusedVariables false
namespace Go.Proofs.Ytekijelmdajhlaa.gp
open Go Go.Ev Go.Sy Go.RowKit Go.Proofs.Ytekijelmdajhlaa.gl Go.Proofs.Ytekijelmdajhlaa.tk Go.Proofs.Ytekijelmdajhlaa.ic
structure Ac where
  kind : Int
  n : Int
  pos : Int
  deep : Int
  ok : Bool
def enA (a : Ac) : List Value := [.int .i64 a.kind, .int .i64 a.n, .int .i64 a.pos, .int .i64 a.deep, .bool a.ok]
def bOfV : Value → Bool
  | .bool b => b
  | _ => false
def decA : List Value → List Ac
  | k :: n :: p :: d :: o :: r => ⟨iOf k, iOf n, iOf p, iOf d, bOfV o⟩ :: decA r
  | _ => []
structure Rs where
  ns : List Int
  how : Int
  code : Int
  pos : Int
  dep : Nat
def kOf (a : Ac) (r : List Ac) : Nat := (inside a.deep 0 (r.length : Nat)).toNat
def tlM : Nat → List Ac → Rs
  | _, [] => ⟨[], 0, 0, 0, 0⟩
  | 0, _ => ⟨[], 0, 0, 0, 0⟩
  | f + 1, a :: r =>
    if a.kind = 1 then ⟨a.n :: (tlM f r).ns, (tlM f r).how, (tlM f r).code, (tlM f r).pos, (tlM f r).dep⟩
    else if a.kind = 2 then ⟨[], 1, a.n, a.pos, 0⟩
    else if a.kind = 3 then (if a.ok then tlM f r else ⟨[], 1, a.n, a.pos, 0⟩)
    else if a.kind = 4 then ⟨[], 2, 0, 0, 0⟩
    else if a.kind = 5 then
      (if (tlM f (r.take (kOf a r))).how = 2 then ⟨(tlM f (r.take (kOf a r))).ns, 2, 0, 0, (tlM f (r.take (kOf a r))).dep + 1⟩
      else ⟨(tlM f (r.take (kOf a r))).ns ++ [(tlM f (r.take (kOf a r))).how, (tlM f (r.take (kOf a r))).code, (tlM f (r.take (kOf a r))).pos] ++ (tlM f (r.drop (kOf a r))).ns, (tlM f (r.drop (kOf a r))).how, (tlM f (r.drop (kOf a r))).code, (tlM f (r.drop (kOf a r))).pos, (tlM f (r.drop (kOf a r))).dep⟩)
    else tlM f r
theorem exZ {α : Type} (x : α) : ∃ y, y = x := ⟨x, rfl⟩
noncomputable def tl : List Ac → Rs := Classical.choose (exZ fun l : List Ac => tlM l.length l)
noncomputable def tNs : Row → List Int := Classical.choose (exZ fun r => (tl (decA r.cells)).ns)
noncomputable def tLn : Row → Nat := Classical.choose (exZ fun r => (tNs r).length)
noncomputable def tHow : Row → Int := Classical.choose (exZ fun r => (tl (decA r.cells)).how)
noncomputable def tCode : Row → Int := Classical.choose (exZ fun r => (tl (decA r.cells)).code)
noncomputable def tPos : Row → Int := Classical.choose (exZ fun r => (tl (decA r.cells)).pos)
def OkA (a : Ac) : Prop := I64 a.kind ∧ I64 a.n ∧ I64 a.pos ∧ I64 a.deep
def IsA (N : Nat) (r : Row) (n m : Nat) : Prop := ∃ l, r = gRo enA l ∧ n = l.length ∧ l.length < N ∧ (∀ a ∈ l, OkA a) ∧ m + 3 * l.length ≤ 16000000
def IsZ (r : Row) (n : Nat) : Prop := ∃ l, r = iOwn .i64 l ∧ n = l.length
noncomputable def eTo (N : Nat) : EntM := (23, fun a r => match a, r with
  | [.slice (some ⟨0, 0, none⟩) n 5, .slice (some ⟨1, 0, none⟩) m 1], [r0, ⟨c1, false, .cells true⟩] => some (IsA N r0 n m ∧ IsZ ⟨c1, false, .cells true⟩ m, .tuple #[.slice (some ⟨2, 0, none⟩) (m + tLn r0) 1, .agg ⟨[.int .i64 (tHow r0), .int .i64 (tCode r0), .int .i64 (tPos r0)]⟩], 3, [(2, iOwn .i64 (dI ⟨c1, false, .cells true⟩ ++ tNs r0))])
  | _, _ => none)
noncomputable def eWi : EntM := entC 34 fun a r => match a, r with
  | [.int .i64 n, .int .i64 lo, .int .i64 hi], [] => some (I64 n ∧ -1000000000000 ≤ lo ∧ hi ≤ 1000000000000 ∧ lo ≤ hi, .int .i64 (inside n lo hi), [])
  | _, _ => none
noncomputable def tTo (N : Nat) : List EntM := [eTo N, eWi]
noncomputable abbrev ETo (N : Nat) : Env := envT Try.prog (tTo N)
structure GT where
  l : List Ac
  z : List Int
structure ST where
  i : Nat
  acc : List Int
structure YT where
  acc : List Int
  h : Int
  c : Int
  p : Int
def pT : List Nat := [0, 1, 0, 1]
def slT (g : GT) (s : ST) : List (Nat × Value) := [(0, .slice (some ⟨0, 0, none⟩) g.l.length 5), (1, .slice (some ⟨3, 0, none⟩) s.acc.length 1), (5, .pointer (some ⟨2, 0, none⟩)), (6, .int .i64 (s.i : Nat))]
def rlT (l : List Ac) (acc : List Int) (h c p : Int) : List (Nat × Row) := [(0, gRo enA l), (2, ⟨[.int .i64 h, .int .i64 c, .int .i64 p], false, .cells false⟩), (3, iOwn .i64 acc)]
def QT (g : GT) (y : YT) : Prop := y.acc = g.z ++ (tl g.l).ns ∧ y.h = (tl g.l).how ∧ y.c = (tl g.l).code ∧ y.p = (tl g.l).pos
def wsT (g : GT) : List (Gate YT) := [⟨.exit 0, fun y => QT g y ∧ y.h = 0 ∧ y.c = 0 ∧ y.p = 0, fun y => [(1, .slice (some ⟨3, 0, none⟩) y.acc.length 1), (5, .pointer (some ⟨2, 0, none⟩))], fun y => rlT g.l y.acc 0 0 0, 4⟩,
  ⟨.ret, fun y => QT g y, fun y => [(4, .slice (some ⟨3, 0, none⟩) y.acc.length 1), (5, .pointer (some ⟨2, 0, none⟩))], fun y => rlT g.l y.acc y.h y.c y.p, 4⟩]
def PT (N : Nat) (g : GT) : Prop := g.l.length ≤ N ∧ (∀ a ∈ g.l, OkA a) ∧ g.z.length + 3 * g.l.length ≤ 16000000
noncomputable def specT (N : Nat) : Sy.Spec := specOf 2 4 98 (PT N) (fun g => slT g ⟨0, g.z⟩) (fun g => rlT g.l g.z 0 0 0) wsT
noncomputable def mT (N : Nat) := mOf [(23, pT, specT N)]
theorem T_round (N : Nat) (g : GT) (s : ST) (Inv : ST → Prop) (m : ST → Nat) : mev (ETo N) noM 60 23 (0 :: pT) false (codeOf Try.prog 23 (0 :: pT)) ⟨mkOv (slT g s), 98, []⟩ none ⟨mkR (rlT g.l s.acc 0 0 0), 4⟩ (roundK 2 4 98 Inv m (slT g) (fun s => rlT g.l s.acc 0 0 0) (wsT g) s) =
  (br (decide ((↑s.1 : Int) < Int.ofNat (List.length g.1))) (br (decide ((0 : Int) <= (↑s.1 : Int) /\ (↑s.1 : Int) < (↑(List.length g.1) : Int))) ((Eq (α := Option Value)
  ((gC enA g.1)[0 + Int.toNat (↑s.1 : Int) * 5]?) (some (Value.int IntKind.i64 (cellI (gC enA g.1) (0 + Int.toNat (↑s.1 : Int) * 5))))) /\ ((Eq (α := Option Value) ((gC enA
  g.1)[0 + Int.toNat (↑s.1 : Int) * 5 + 1]?) (some (Value.int IntKind.i64 (cellI (gC enA g.1) (0 + Int.toNat (↑s.1 : Int) * 5 + 1))))) /\ ((Eq (α := Option Value) ((gC enA
  g.1)[0 + Int.toNat (↑s.1 : Int) * 5 + 1 + 1]?) (some (Value.int IntKind.i64 (cellI (gC enA g.1) (0 + Int.toNat (↑s.1 : Int) * 5 + 1 + 1))))) /\ ((Eq (α := Option Value)
  ((gC enA g.1)[0 + Int.toNat (↑s.1 : Int) * 5 + 1 + 1 + 1]?) (some (Value.int IntKind.i64 (cellI (gC enA g.1) (0 + Int.toNat (↑s.1 : Int) * 5 + 1 + 1 + 1))))) /\ ((Eq (α :=
  Option Value) ((gC enA g.1)[0 + Int.toNat (↑s.1 : Int) * 5 + 1 + 1 + 1 + 1]?) (some (Value.bool (cellB (gC enA g.1) (0 + Int.toNat (↑s.1 : Int) * 5 + 1 + 1 + 1 + 1))))) /\
  (br (cellI (gC enA g.1) (0 + Int.toNat (↑s.1 : Int) * 5) == (1 : Int)) (br (decide (List.length s.2 + 1 <= 16777216)) (br (decide (0 + List.length s.2 * 1 <= List.length
  (iCells IntKind.i64 s.2))) (∃ j : ST, ((Inv j) /\ ((m j < m s) /\ ((0 = 0) /\ ((List.length g.1 = List.length g.1) /\ ((0 = 0) /\ ((List.length j.2 = List.length s.2 + 1)
  /\ ((0 = 0) /\ (((↑j.1 : Int) = IntKind.wrap IntKind.i64 ((↑s.1 : Int) + (1 : Int))) /\ ((Eq (α := List Value) (gC enA g.1) (gC enA g.1)) /\ ((Plain (gC enA g.1)) /\ (((0
  : Int) = (0 : Int)) /\ (((0 : Int) = (0 : Int)) /\ (((0 : Int) = (0 : Int)) /\ ((Eq (α := List Value) (iCells IntKind.i64 j.2) (List.take (List.length s.2 * 1) (List.drop
  0 (iCells IntKind.i64 s.2)) ++ [Value.int IntKind.i64 (cellI (gC enA g.1) (0 + Int.toNat (↑s.1 : Int) * 5 + 1))])) /\ ((Plain (iCells IntKind.i64 j.2)) /\
  True)))))))))))))))) False) False) (br (cellI (gC enA g.1) (0 + Int.toNat (↑s.1 : Int) * 5) == (2 : Int)) ((Value.int IntKind.i64 (cellI (gC enA g.1) (0 + Int.toNat (↑s.1
  : Int) * 5 + 1)) = Value.int IntKind.i64 (cellI (gC enA g.1) (0 + Int.toNat (↑s.1 : Int) * 5 + 1))) /\ ((Value.int IntKind.i64 (cellI (gC enA g.1) (0 + Int.toNat (↑s.1 :
  Int) * 5 + 1 + 1)) = Value.int IntKind.i64 (cellI (gC enA g.1) (0 + Int.toNat (↑s.1 : Int) * 5 + 1 + 1))) /\ (∃ y : YT, ((QT g y) /\ ((0 = 0) /\ ((List.length y.1 =
  List.length s.2) /\ ((0 = 0) /\ ((Eq (α := List Value) (gC enA g.1) (gC enA g.1)) /\ ((Plain (gC enA g.1)) /\ ((y.2 = (1 : Int)) /\ ((y.3 = cellI (gC enA g.1) (0 +
  Int.toNat (↑s.1 : Int) * 5 + 1)) /\ ((y.4 = cellI (gC enA g.1) (0 + Int.toNat (↑s.1 : Int) * 5 + 1 + 1)) /\ ((Eq (α := List Value) (iCells IntKind.i64 y.1) (iCells
  IntKind.i64 s.2)) /\ ((Plain (iCells IntKind.i64 y.1)) /\ True)))))))))))))) (br (cellI (gC enA g.1) (0 + Int.toNat (↑s.1 : Int) * 5) == (3 : Int)) (br (!cellB (gC enA
  g.1) (0 + Int.toNat (↑s.1 : Int) * 5 + 1 + 1 + 1 + 1)) ((Value.int IntKind.i64 (cellI (gC enA g.1) (0 + Int.toNat (↑s.1 : Int) * 5 + 1)) = Value.int IntKind.i64 (cellI (gC
  enA g.1) (0 + Int.toNat (↑s.1 : Int) * 5 + 1))) /\ ((Value.int IntKind.i64 (cellI (gC enA g.1) (0 + Int.toNat (↑s.1 : Int) * 5 + 1 + 1)) = Value.int IntKind.i64 (cellI (gC
  enA g.1) (0 + Int.toNat (↑s.1 : Int) * 5 + 1 + 1))) /\ (∃ y : YT, ((QT g y) /\ ((0 = 0) /\ ((List.length y.1 = List.length s.2) /\ ((0 = 0) /\ ((Eq (α := List Value) (gC
  enA g.1) (gC enA g.1)) /\ ((Plain (gC enA g.1)) /\ ((y.2 = (1 : Int)) /\ ((y.3 = cellI (gC enA g.1) (0 + Int.toNat (↑s.1 : Int) * 5 + 1)) /\ ((y.4 = cellI (gC enA g.1) (0
  + Int.toNat (↑s.1 : Int) * 5 + 1 + 1)) /\ ((Eq (α := List Value) (iCells IntKind.i64 y.1) (iCells IntKind.i64 s.2)) /\ ((Plain (iCells IntKind.i64 y.1)) /\
  True)))))))))))))) (∃ j : ST, ((Inv j) /\ ((m j < m s) /\ ((0 = 0) /\ ((List.length g.1 = List.length g.1) /\ ((0 = 0) /\ ((List.length j.2 = List.length s.2) /\ ((0 = 0)
  /\ (((↑j.1 : Int) = IntKind.wrap IntKind.i64 ((↑s.1 : Int) + (1 : Int))) /\ ((Eq (α := List Value) (gC enA g.1) (gC enA g.1)) /\ ((Plain (gC enA g.1)) /\ (((0 : Int) = (0
  : Int)) /\ (((0 : Int) = (0 : Int)) /\ (((0 : Int) = (0 : Int)) /\ ((Eq (α := List Value) (iCells IntKind.i64 j.2) (iCells IntKind.i64 s.2)) /\ ((Plain (iCells IntKind.i64
  j.2)) /\ True))))))))))))))))) (br (cellI (gC enA g.1) (0 + Int.toNat (↑s.1 : Int) * 5) == (4 : Int)) (∃ y : YT, ((QT g y) /\ ((0 = 0) /\ ((List.length y.1 = List.length
  s.2) /\ ((0 = 0) /\ ((Eq (α := List Value) (gC enA g.1) (gC enA g.1)) /\ ((Plain (gC enA g.1)) /\ ((y.2 = (2 : Int)) /\ ((y.3 = (0 : Int)) /\ ((y.4 = (0 : Int)) /\ ((Eq (α
  := List Value) (iCells IntKind.i64 y.1) (iCells IntKind.i64 s.2)) /\ ((Plain (iCells IntKind.i64 y.1)) /\ True)))))))))))) (br (cellI (gC enA g.1) (0 + Int.toNat (↑s.1 :
  Int) * 5) == (5 : Int)) ((((True /\ (True /\ (True /\ True))) /\ (True /\ (True /\ (I64 (cellI (gC enA g.1) (0 + Int.toNat (↑s.1 : Int) * 5 + 1 + 1 + 1)) /\
  ((-1000000000000 : Int) <= (0 : Int) /\ (IntKind.wrap IntKind.i64 (IntKind.wrap IntKind.i64 (Int.ofNat (List.length g.1) - (↑s.1 : Int)) - (1 : Int)) <= (1000000000000 :
  Int) /\ (0 : Int) <= IntKind.wrap IntKind.i64 (IntKind.wrap IntKind.i64 (Int.ofNat (List.length g.1) - (↑s.1 : Int)) - (1 : Int))))))))) /\ (br (decide ((0 : Int) <=
  IntKind.wrap IntKind.i64 ((↑s.1 : Int) + (1 : Int)) /\ IntKind.wrap IntKind.i64 ((↑s.1 : Int) + (1 : Int)) <= IntKind.wrap IntKind.i64 (IntKind.wrap IntKind.i64 ((↑s.1 :
  Int) + (1 : Int)) + inside (cellI (gC enA g.1) (0 + Int.toNat (↑s.1 : Int) * 5 + 1 + 1 + 1)) (0 : Int) (IntKind.wrap IntKind.i64 (IntKind.wrap IntKind.i64 (Int.ofNat
  (List.length g.1) - (↑s.1 : Int)) - (1 : Int)))) /\ IntKind.wrap IntKind.i64 (IntKind.wrap IntKind.i64 ((↑s.1 : Int) + (1 : Int)) + inside (cellI (gC enA g.1) (0 +
  Int.toNat (↑s.1 : Int) * 5 + 1 + 1 + 1)) (0 : Int) (IntKind.wrap IntKind.i64 (IntKind.wrap IntKind.i64 (Int.ofNat (List.length g.1) - (↑s.1 : Int)) - (1 : Int)))) <=
  (↑(List.length g.1) : Int))) (((((0 + Int.toNat (IntKind.wrap IntKind.i64 ((↑s.1 : Int) + (1 : Int))) * 5 + (Int.toNat (IntKind.wrap IntKind.i64 (IntKind.wrap IntKind.i64
  ((↑s.1 : Int) + (1 : Int)) + inside (cellI (gC enA g.1) (0 + Int.toNat (↑s.1 : Int) * 5 + 1 + 1 + 1)) (0 : Int) (IntKind.wrap IntKind.i64 (IntKind.wrap IntKind.i64
  (Int.ofNat (List.length g.1) - (↑s.1 : Int)) - (1 : Int))))) - Int.toNat (IntKind.wrap IntKind.i64 ((↑s.1 : Int) + (1 : Int)))) * 5 <= List.length (gC enA g.1) /\ Plain
  (List.take ((Int.toNat (IntKind.wrap IntKind.i64 (IntKind.wrap IntKind.i64 ((↑s.1 : Int) + (1 : Int)) + inside (cellI (gC enA g.1) (0 + Int.toNat (↑s.1 : Int) * 5 + 1 + 1
  + 1)) (0 : Int) (IntKind.wrap IntKind.i64 (IntKind.wrap IntKind.i64 (Int.ofNat (List.length g.1) - (↑s.1 : Int)) - (1 : Int))))) - Int.toNat (IntKind.wrap IntKind.i64
  ((↑s.1 : Int) + (1 : Int)))) * 5) (List.drop (0 + Int.toNat (IntKind.wrap IntKind.i64 ((↑s.1 : Int) + (1 : Int))) * 5) (gC enA g.1)))) /\ (True /\ True)) /\ ((True /\
  (Plain (iCells IntKind.i64 s.2) /\ True)) /\ ((Plain (iCells IntKind.i64 (dI (Row.mk (iCells IntKind.i64 s.2) false (Ob.cells true)) ++ tNs (Row.mk (List.take ((Int.toNat
  (IntKind.wrap IntKind.i64 (IntKind.wrap IntKind.i64 ((↑s.1 : Int) + (1 : Int)) + inside (cellI (gC enA g.1) (0 + Int.toNat (↑s.1 : Int) * 5 + 1 + 1 + 1)) (0 : Int)
  (IntKind.wrap IntKind.i64 (IntKind.wrap IntKind.i64 (Int.ofNat (List.length g.1) - (↑s.1 : Int)) - (1 : Int))))) - Int.toNat (IntKind.wrap IntKind.i64 ((↑s.1 : Int) + (1 :
  Int)))) * 5) (List.drop (0 + Int.toNat (IntKind.wrap IntKind.i64 ((↑s.1 : Int) + (1 : Int))) * 5) (gC enA g.1))) true (Ob.cells true)))) /\ True) /\ (IsA N (Row.mk
  (List.take ((Int.toNat (IntKind.wrap IntKind.i64 (IntKind.wrap IntKind.i64 ((↑s.1 : Int) + (1 : Int)) + inside (cellI (gC enA g.1) (0 + Int.toNat (↑s.1 : Int) * 5 + 1 + 1
  + 1)) (0 : Int) (IntKind.wrap IntKind.i64 (IntKind.wrap IntKind.i64 (Int.ofNat (List.length g.1) - (↑s.1 : Int)) - (1 : Int))))) - Int.toNat (IntKind.wrap IntKind.i64
  ((↑s.1 : Int) + (1 : Int)))) * 5) (List.drop (0 + Int.toNat (IntKind.wrap IntKind.i64 ((↑s.1 : Int) + (1 : Int))) * 5) (gC enA g.1))) true (Ob.cells true)) (Int.toNat
  (IntKind.wrap IntKind.i64 (IntKind.wrap IntKind.i64 ((↑s.1 : Int) + (1 : Int)) + inside (cellI (gC enA g.1) (0 + Int.toNat (↑s.1 : Int) * 5 + 1 + 1 + 1)) (0 : Int)
  (IntKind.wrap IntKind.i64 (IntKind.wrap IntKind.i64 (Int.ofNat (List.length g.1) - (↑s.1 : Int)) - (1 : Int))))) - Int.toNat (IntKind.wrap IntKind.i64 ((↑s.1 : Int) + (1 :
  Int)))) (List.length s.2) /\ IsZ (Row.mk (iCells IntKind.i64 s.2) false (Ob.cells true)) (List.length s.2)))))) /\ (br (tHow (Row.mk (List.take ((Int.toNat (IntKind.wrap
  IntKind.i64 (IntKind.wrap IntKind.i64 ((↑s.1 : Int) + (1 : Int)) + inside (cellI (gC enA g.1) (0 + Int.toNat (↑s.1 : Int) * 5 + 1 + 1 + 1)) (0 : Int) (IntKind.wrap
  IntKind.i64 (IntKind.wrap IntKind.i64 (Int.ofNat (List.length g.1) - (↑s.1 : Int)) - (1 : Int))))) - Int.toNat (IntKind.wrap IntKind.i64 ((↑s.1 : Int) + (1 : Int)))) * 5)
  (List.drop (0 + Int.toNat (IntKind.wrap IntKind.i64 ((↑s.1 : Int) + (1 : Int))) * 5) (gC enA g.1))) true (Ob.cells true)) == (2 : Int)) ((Value.agg (Array.mk [Value.int
  IntKind.i64 (tHow (Row.mk (List.take ((Int.toNat (IntKind.wrap IntKind.i64 (IntKind.wrap IntKind.i64 ((↑s.1 : Int) + (1 : Int)) + inside (cellI (gC enA g.1) (0 + Int.toNat
  (↑s.1 : Int) * 5 + 1 + 1 + 1)) (0 : Int) (IntKind.wrap IntKind.i64 (IntKind.wrap IntKind.i64 (Int.ofNat (List.length g.1) - (↑s.1 : Int)) - (1 : Int))))) - Int.toNat
  (IntKind.wrap IntKind.i64 ((↑s.1 : Int) + (1 : Int)))) * 5) (List.drop (0 + Int.toNat (IntKind.wrap IntKind.i64 ((↑s.1 : Int) + (1 : Int))) * 5) (gC enA g.1))) true
  (Ob.cells true))), Value.int IntKind.i64 (tCode (Row.mk (List.take ((Int.toNat (IntKind.wrap IntKind.i64 (IntKind.wrap IntKind.i64 ((↑s.1 : Int) + (1 : Int)) + inside
  (cellI (gC enA g.1) (0 + Int.toNat (↑s.1 : Int) * 5 + 1 + 1 + 1)) (0 : Int) (IntKind.wrap IntKind.i64 (IntKind.wrap IntKind.i64 (Int.ofNat (List.length g.1) - (↑s.1 :
  Int)) - (1 : Int))))) - Int.toNat (IntKind.wrap IntKind.i64 ((↑s.1 : Int) + (1 : Int)))) * 5) (List.drop (0 + Int.toNat (IntKind.wrap IntKind.i64 ((↑s.1 : Int) + (1 :
  Int))) * 5) (gC enA g.1))) true (Ob.cells true))), Value.int IntKind.i64 (tPos (Row.mk (List.take ((Int.toNat (IntKind.wrap IntKind.i64 (IntKind.wrap IntKind.i64 ((↑s.1 :
  Int) + (1 : Int)) + inside (cellI (gC enA g.1) (0 + Int.toNat (↑s.1 : Int) * 5 + 1 + 1 + 1)) (0 : Int) (IntKind.wrap IntKind.i64 (IntKind.wrap IntKind.i64 (Int.ofNat
  (List.length g.1) - (↑s.1 : Int)) - (1 : Int))))) - Int.toNat (IntKind.wrap IntKind.i64 ((↑s.1 : Int) + (1 : Int)))) * 5) (List.drop (0 + Int.toNat (IntKind.wrap
  IntKind.i64 ((↑s.1 : Int) + (1 : Int))) * 5) (gC enA g.1))) true (Ob.cells true)))]) = Value.agg (Array.mk [Value.int IntKind.i64 (tHow (Row.mk (List.take ((Int.toNat
  (IntKind.wrap IntKind.i64 (IntKind.wrap IntKind.i64 ((↑s.1 : Int) + (1 : Int)) + inside (cellI (gC enA g.1) (0 + Int.toNat (↑s.1 : Int) * 5 + 1 + 1 + 1)) (0 : Int)
  (IntKind.wrap IntKind.i64 (IntKind.wrap IntKind.i64 (Int.ofNat (List.length g.1) - (↑s.1 : Int)) - (1 : Int))))) - Int.toNat (IntKind.wrap IntKind.i64 ((↑s.1 : Int) + (1 :
  Int)))) * 5) (List.drop (0 + Int.toNat (IntKind.wrap IntKind.i64 ((↑s.1 : Int) + (1 : Int))) * 5) (gC enA g.1))) true (Ob.cells true))), Value.int IntKind.i64 (tCode
  (Row.mk (List.take ((Int.toNat (IntKind.wrap IntKind.i64 (IntKind.wrap IntKind.i64 ((↑s.1 : Int) + (1 : Int)) + inside (cellI (gC enA g.1) (0 + Int.toNat (↑s.1 : Int) * 5
  + 1 + 1 + 1)) (0 : Int) (IntKind.wrap IntKind.i64 (IntKind.wrap IntKind.i64 (Int.ofNat (List.length g.1) - (↑s.1 : Int)) - (1 : Int))))) - Int.toNat (IntKind.wrap
  IntKind.i64 ((↑s.1 : Int) + (1 : Int)))) * 5) (List.drop (0 + Int.toNat (IntKind.wrap IntKind.i64 ((↑s.1 : Int) + (1 : Int))) * 5) (gC enA g.1))) true (Ob.cells true))),
  Value.int IntKind.i64 (tPos (Row.mk (List.take ((Int.toNat (IntKind.wrap IntKind.i64 (IntKind.wrap IntKind.i64 ((↑s.1 : Int) + (1 : Int)) + inside (cellI (gC enA g.1) (0 +
  Int.toNat (↑s.1 : Int) * 5 + 1 + 1 + 1)) (0 : Int) (IntKind.wrap IntKind.i64 (IntKind.wrap IntKind.i64 (Int.ofNat (List.length g.1) - (↑s.1 : Int)) - (1 : Int))))) -
  Int.toNat (IntKind.wrap IntKind.i64 ((↑s.1 : Int) + (1 : Int)))) * 5) (List.drop (0 + Int.toNat (IntKind.wrap IntKind.i64 ((↑s.1 : Int) + (1 : Int))) * 5) (gC enA g.1)))
  true (Ob.cells true)))])) /\ (∃ y : YT, ((QT g y) /\ ((0 = 0) /\ ((List.length y.1 = List.length s.2 + tLn (Row.mk (List.take ((Int.toNat (IntKind.wrap IntKind.i64
  (IntKind.wrap IntKind.i64 ((↑s.1 : Int) + (1 : Int)) + inside (cellI (gC enA g.1) (0 + Int.toNat (↑s.1 : Int) * 5 + 1 + 1 + 1)) (0 : Int) (IntKind.wrap IntKind.i64
  (IntKind.wrap IntKind.i64 (Int.ofNat (List.length g.1) - (↑s.1 : Int)) - (1 : Int))))) - Int.toNat (IntKind.wrap IntKind.i64 ((↑s.1 : Int) + (1 : Int)))) * 5) (List.drop
  (0 + Int.toNat (IntKind.wrap IntKind.i64 ((↑s.1 : Int) + (1 : Int))) * 5) (gC enA g.1))) true (Ob.cells true))) /\ ((0 = 0) /\ ((Eq (α := List Value) (gC enA g.1) (gC enA
  g.1)) /\ ((Plain (gC enA g.1)) /\ ((y.2 = tHow (Row.mk (List.take ((Int.toNat (IntKind.wrap IntKind.i64 (IntKind.wrap IntKind.i64 ((↑s.1 : Int) + (1 : Int)) + inside
  (cellI (gC enA g.1) (0 + Int.toNat (↑s.1 : Int) * 5 + 1 + 1 + 1)) (0 : Int) (IntKind.wrap IntKind.i64 (IntKind.wrap IntKind.i64 (Int.ofNat (List.length g.1) - (↑s.1 :
  Int)) - (1 : Int))))) - Int.toNat (IntKind.wrap IntKind.i64 ((↑s.1 : Int) + (1 : Int)))) * 5) (List.drop (0 + Int.toNat (IntKind.wrap IntKind.i64 ((↑s.1 : Int) + (1 :
  Int))) * 5) (gC enA g.1))) true (Ob.cells true))) /\ ((y.3 = tCode (Row.mk (List.take ((Int.toNat (IntKind.wrap IntKind.i64 (IntKind.wrap IntKind.i64 ((↑s.1 : Int) + (1 :
  Int)) + inside (cellI (gC enA g.1) (0 + Int.toNat (↑s.1 : Int) * 5 + 1 + 1 + 1)) (0 : Int) (IntKind.wrap IntKind.i64 (IntKind.wrap IntKind.i64 (Int.ofNat (List.length g.1)
  - (↑s.1 : Int)) - (1 : Int))))) - Int.toNat (IntKind.wrap IntKind.i64 ((↑s.1 : Int) + (1 : Int)))) * 5) (List.drop (0 + Int.toNat (IntKind.wrap IntKind.i64 ((↑s.1 : Int) +
  (1 : Int))) * 5) (gC enA g.1))) true (Ob.cells true))) /\ ((y.4 = tPos (Row.mk (List.take ((Int.toNat (IntKind.wrap IntKind.i64 (IntKind.wrap IntKind.i64 ((↑s.1 : Int) +
  (1 : Int)) + inside (cellI (gC enA g.1) (0 + Int.toNat (↑s.1 : Int) * 5 + 1 + 1 + 1)) (0 : Int) (IntKind.wrap IntKind.i64 (IntKind.wrap IntKind.i64 (Int.ofNat (List.length
  g.1) - (↑s.1 : Int)) - (1 : Int))))) - Int.toNat (IntKind.wrap IntKind.i64 ((↑s.1 : Int) + (1 : Int)))) * 5) (List.drop (0 + Int.toNat (IntKind.wrap IntKind.i64 ((↑s.1 :
  Int) + (1 : Int))) * 5) (gC enA g.1))) true (Ob.cells true))) /\ ((Eq (α := List Value) (iCells IntKind.i64 y.1) (iCells IntKind.i64 (dI (Row.mk (iCells IntKind.i64 s.2)
  false (Ob.cells true)) ++ tNs (Row.mk (List.take ((Int.toNat (IntKind.wrap IntKind.i64 (IntKind.wrap IntKind.i64 ((↑s.1 : Int) + (1 : Int)) + inside (cellI (gC enA g.1) (0
  + Int.toNat (↑s.1 : Int) * 5 + 1 + 1 + 1)) (0 : Int) (IntKind.wrap IntKind.i64 (IntKind.wrap IntKind.i64 (Int.ofNat (List.length g.1) - (↑s.1 : Int)) - (1 : Int))))) -
  Int.toNat (IntKind.wrap IntKind.i64 ((↑s.1 : Int) + (1 : Int)))) * 5) (List.drop (0 + Int.toNat (IntKind.wrap IntKind.i64 ((↑s.1 : Int) + (1 : Int))) * 5) (gC enA g.1)))
  true (Ob.cells true))))) /\ ((Plain (iCells IntKind.i64 y.1)) /\ True))))))))))))) (br (decide (List.length s.2 + tLn (Row.mk (List.take ((Int.toNat (IntKind.wrap
  IntKind.i64 (IntKind.wrap IntKind.i64 ((↑s.1 : Int) + (1 : Int)) + inside (cellI (gC enA g.1) (0 + Int.toNat (↑s.1 : Int) * 5 + 1 + 1 + 1)) (0 : Int) (IntKind.wrap
  IntKind.i64 (IntKind.wrap IntKind.i64 (Int.ofNat (List.length g.1) - (↑s.1 : Int)) - (1 : Int))))) - Int.toNat (IntKind.wrap IntKind.i64 ((↑s.1 : Int) + (1 : Int)))) * 5)
  (List.drop (0 + Int.toNat (IntKind.wrap IntKind.i64 ((↑s.1 : Int) + (1 : Int))) * 5) (gC enA g.1))) true (Ob.cells true)) + 3 <= 16777216)) (br (decide (0 + (List.length
  s.2 + tLn (Row.mk (List.take ((Int.toNat (IntKind.wrap IntKind.i64 (IntKind.wrap IntKind.i64 ((↑s.1 : Int) + (1 : Int)) + inside (cellI (gC enA g.1) (0 + Int.toNat (↑s.1 :
  Int) * 5 + 1 + 1 + 1)) (0 : Int) (IntKind.wrap IntKind.i64 (IntKind.wrap IntKind.i64 (Int.ofNat (List.length g.1) - (↑s.1 : Int)) - (1 : Int))))) - Int.toNat (IntKind.wrap
  IntKind.i64 ((↑s.1 : Int) + (1 : Int)))) * 5) (List.drop (0 + Int.toNat (IntKind.wrap IntKind.i64 ((↑s.1 : Int) + (1 : Int))) * 5) (gC enA g.1))) true (Ob.cells true))) *
  1 <= List.length (iCells IntKind.i64 (dI (Row.mk (iCells IntKind.i64 s.2) false (Ob.cells true)) ++ tNs (Row.mk (List.take ((Int.toNat (IntKind.wrap IntKind.i64
  (IntKind.wrap IntKind.i64 ((↑s.1 : Int) + (1 : Int)) + inside (cellI (gC enA g.1) (0 + Int.toNat (↑s.1 : Int) * 5 + 1 + 1 + 1)) (0 : Int) (IntKind.wrap IntKind.i64
  (IntKind.wrap IntKind.i64 (Int.ofNat (List.length g.1) - (↑s.1 : Int)) - (1 : Int))))) - Int.toNat (IntKind.wrap IntKind.i64 ((↑s.1 : Int) + (1 : Int)))) * 5) (List.drop
  (0 + Int.toNat (IntKind.wrap IntKind.i64 ((↑s.1 : Int) + (1 : Int))) * 5) (gC enA g.1))) true (Ob.cells true)))))) (∃ j : ST, ((Inv j) /\ ((m j < m s) /\ ((0 = 0) /\
  ((List.length g.1 = List.length g.1) /\ ((0 = 0) /\ ((List.length j.2 = List.length s.2 + tLn (Row.mk (List.take ((Int.toNat (IntKind.wrap IntKind.i64 (IntKind.wrap
  IntKind.i64 ((↑s.1 : Int) + (1 : Int)) + inside (cellI (gC enA g.1) (0 + Int.toNat (↑s.1 : Int) * 5 + 1 + 1 + 1)) (0 : Int) (IntKind.wrap IntKind.i64 (IntKind.wrap
  IntKind.i64 (Int.ofNat (List.length g.1) - (↑s.1 : Int)) - (1 : Int))))) - Int.toNat (IntKind.wrap IntKind.i64 ((↑s.1 : Int) + (1 : Int)))) * 5) (List.drop (0 + Int.toNat
  (IntKind.wrap IntKind.i64 ((↑s.1 : Int) + (1 : Int))) * 5) (gC enA g.1))) true (Ob.cells true)) + 3) /\ ((0 = 0) /\ (((↑j.1 : Int) = IntKind.wrap IntKind.i64 (IntKind.wrap
  IntKind.i64 ((↑s.1 : Int) + inside (cellI (gC enA g.1) (0 + Int.toNat (↑s.1 : Int) * 5 + 1 + 1 + 1)) (0 : Int) (IntKind.wrap IntKind.i64 (IntKind.wrap IntKind.i64
  (Int.ofNat (List.length g.1) - (↑s.1 : Int)) - (1 : Int)))) + (1 : Int))) /\ ((Eq (α := List Value) (gC enA g.1) (gC enA g.1)) /\ ((Plain (gC enA g.1)) /\ (((0 : Int) = (0
  : Int)) /\ (((0 : Int) = (0 : Int)) /\ (((0 : Int) = (0 : Int)) /\ ((Eq (α := List Value) (iCells IntKind.i64 j.2) (List.take ((List.length s.2 + tLn (Row.mk (List.take
  ((Int.toNat (IntKind.wrap IntKind.i64 (IntKind.wrap IntKind.i64 ((↑s.1 : Int) + (1 : Int)) + inside (cellI (gC enA g.1) (0 + Int.toNat (↑s.1 : Int) * 5 + 1 + 1 + 1)) (0 :
  Int) (IntKind.wrap IntKind.i64 (IntKind.wrap IntKind.i64 (Int.ofNat (List.length g.1) - (↑s.1 : Int)) - (1 : Int))))) - Int.toNat (IntKind.wrap IntKind.i64 ((↑s.1 : Int) +
  (1 : Int)))) * 5) (List.drop (0 + Int.toNat (IntKind.wrap IntKind.i64 ((↑s.1 : Int) + (1 : Int))) * 5) (gC enA g.1))) true (Ob.cells true))) * 1) (List.drop 0 (iCells
  IntKind.i64 (dI (Row.mk (iCells IntKind.i64 s.2) false (Ob.cells true)) ++ tNs (Row.mk (List.take ((Int.toNat (IntKind.wrap IntKind.i64 (IntKind.wrap IntKind.i64 ((↑s.1 :
  Int) + (1 : Int)) + inside (cellI (gC enA g.1) (0 + Int.toNat (↑s.1 : Int) * 5 + 1 + 1 + 1)) (0 : Int) (IntKind.wrap IntKind.i64 (IntKind.wrap IntKind.i64 (Int.ofNat
  (List.length g.1) - (↑s.1 : Int)) - (1 : Int))))) - Int.toNat (IntKind.wrap IntKind.i64 ((↑s.1 : Int) + (1 : Int)))) * 5) (List.drop (0 + Int.toNat (IntKind.wrap
  IntKind.i64 ((↑s.1 : Int) + (1 : Int))) * 5) (gC enA g.1))) true (Ob.cells true))))) ++ [Value.int IntKind.i64 (tHow (Row.mk (List.take ((Int.toNat (IntKind.wrap
  IntKind.i64 (IntKind.wrap IntKind.i64 ((↑s.1 : Int) + (1 : Int)) + inside (cellI (gC enA g.1) (0 + Int.toNat (↑s.1 : Int) * 5 + 1 + 1 + 1)) (0 : Int) (IntKind.wrap
  IntKind.i64 (IntKind.wrap IntKind.i64 (Int.ofNat (List.length g.1) - (↑s.1 : Int)) - (1 : Int))))) - Int.toNat (IntKind.wrap IntKind.i64 ((↑s.1 : Int) + (1 : Int)))) * 5)
  (List.drop (0 + Int.toNat (IntKind.wrap IntKind.i64 ((↑s.1 : Int) + (1 : Int))) * 5) (gC enA g.1))) true (Ob.cells true))), Value.int IntKind.i64 (tCode (Row.mk (List.take
  ((Int.toNat (IntKind.wrap IntKind.i64 (IntKind.wrap IntKind.i64 ((↑s.1 : Int) + (1 : Int)) + inside (cellI (gC enA g.1) (0 + Int.toNat (↑s.1 : Int) * 5 + 1 + 1 + 1)) (0 :
  Int) (IntKind.wrap IntKind.i64 (IntKind.wrap IntKind.i64 (Int.ofNat (List.length g.1) - (↑s.1 : Int)) - (1 : Int))))) - Int.toNat (IntKind.wrap IntKind.i64 ((↑s.1 : Int) +
  (1 : Int)))) * 5) (List.drop (0 + Int.toNat (IntKind.wrap IntKind.i64 ((↑s.1 : Int) + (1 : Int))) * 5) (gC enA g.1))) true (Ob.cells true))), Value.int IntKind.i64 (tPos
  (Row.mk (List.take ((Int.toNat (IntKind.wrap IntKind.i64 (IntKind.wrap IntKind.i64 ((↑s.1 : Int) + (1 : Int)) + inside (cellI (gC enA g.1) (0 + Int.toNat (↑s.1 : Int) * 5
  + 1 + 1 + 1)) (0 : Int) (IntKind.wrap IntKind.i64 (IntKind.wrap IntKind.i64 (Int.ofNat (List.length g.1) - (↑s.1 : Int)) - (1 : Int))))) - Int.toNat (IntKind.wrap
  IntKind.i64 ((↑s.1 : Int) + (1 : Int)))) * 5) (List.drop (0 + Int.toNat (IntKind.wrap IntKind.i64 ((↑s.1 : Int) + (1 : Int))) * 5) (gC enA g.1))) true (Ob.cells true)))]))
  /\ ((Plain (iCells IntKind.i64 j.2)) /\ True)))))))))))))))) False) False))) False)) (∃ j : ST, ((Inv j) /\ ((m j < m s) /\ ((0 = 0) /\ ((List.length g.1 = List.length
  g.1) /\ ((0 = 0) /\ ((List.length j.2 = List.length s.2) /\ ((0 = 0) /\ (((↑j.1 : Int) = IntKind.wrap IntKind.i64 ((↑s.1 : Int) + (1 : Int))) /\ ((Eq (α := List Value) (gC
  enA g.1) (gC enA g.1)) /\ ((Plain (gC enA g.1)) /\ (((0 : Int) = (0 : Int)) /\ (((0 : Int) = (0 : Int)) /\ (((0 : Int) = (0 : Int)) /\ ((Eq (α := List Value) (iCells
  IntKind.i64 j.2) (iCells IntKind.i64 s.2)) /\ ((Plain (iCells IntKind.i64 j.2)) /\ True)))))))))))))))))))))))))) False) (∃ y : YT, (((QT g y /\ (y.2 = (0 : Int) /\ (y.3 =
  (0 : Int) /\ y.4 = (0 : Int))))) /\ ((0 = 0) /\ ((List.length y.1 = List.length s.2) /\ ((0 = 0) /\ ((Eq (α := List Value) (gC enA g.1) (gC enA g.1)) /\ ((Plain (gC enA
  g.1)) /\ (((0 : Int) = (0 : Int)) /\ (((0 : Int) = (0 : Int)) /\ (((0 : Int) = (0 : Int)) /\ ((Eq (α := List Value) (iCells IntKind.i64 y.1) (iCells IntKind.i64 s.2)) /\
  ((Plain (iCells IntKind.i64 y.1)) /\ True))))))))))))) := by kernel_rfl
theorem T_vc (N : Nat) (l : List Ac) (z o : List Int) (h c p : Int) : mcall (ETo N) (mT N) 60 23 [.slice (some ⟨0, 0, none⟩) l.length 5, .slice (some ⟨1, 0, none⟩) z.length 1] ⟨mkR (nums 0 [gRo enA l, iOwn .i64 z]), 2⟩ (retIsM 2 (.tuple #[.slice (some ⟨2, 0, none⟩) o.length 1, .agg ⟨[.int .i64 h, .int .i64 c, .int .i64 p]⟩]) 3 [(2, iOwn .i64 o)]) =
  (∃ g : GT, ((PT N g) /\ ((0 = 0) /\ ((List.length g.1 = List.length l) /\ ((0 = 0) /\ ((List.length g.2 = List.length z) /\ ((0 = 0) /\ (((↑0 : Int) = (0 : Int)) /\ ((Eq
  (α := List Value) (gC enA g.1) (gC enA l)) /\ ((Plain (gC enA g.1)) /\ (((0 : Int) = (0 : Int)) /\ (((0 : Int) = (0 : Int)) /\ (((0 : Int) = (0 : Int)) /\ ((Eq (α := List
  Value) (iCells IntKind.i64 g.2) (iCells IntKind.i64 z)) /\ ((Plain (iCells IntKind.i64 g.2)) /\ (∀ (side : Bool), (br (side) (∀ (y : YT), ((QT g y /\ y.2 = (0 : Int) /\
  y.3 = (0 : Int) /\ y.4 = (0 : Int)) → ((0 = 0) /\ ((List.length o = List.length y.1) /\ ((h = (0 : Int)) /\ ((c = (0 : Int)) /\ ((p = (0 : Int)) /\ ((Eq (α := List Value)
  (iCells IntKind.i64 o) (iCells IntKind.i64 y.1)) /\ ((Plain (iCells IntKind.i64 o)) /\ True))))))))) (∀ (y : YT), ((QT g y) → ((0 = 0) /\ ((List.length o = List.length
  y.1) /\ ((h = y.2) /\ ((c = y.3) /\ ((p = y.4) /\ ((Eq (α := List Value) (iCells IntKind.i64 o) (iCells IntKind.i64 y.1)) /\ ((Plain (iCells IntKind.i64 o)) /\
  True)))))))))))))))))))))))))) := by kernel_rfl
theorem dec_gC : ∀ l : List Ac, decA (gC enA l) = l
  | [] => rfl
  | a :: l => by
    rw [gC_cons]
    show (⟨a.kind, a.n, a.pos, a.deep, a.ok⟩ : Ac) :: decA (gC enA l) = a :: l
    rw [dec_gC l]
theorem z_tl (l : List Ac) : tl l = tlM l.length l := congrFun (Classical.choose_spec (exZ fun l : List Ac => tlM l.length l)) l
theorem z_tNs (q : List Ac) : tNs ⟨gC enA q, true, .cells true⟩ = (tl q).ns := by
  have h : tNs = _ := Classical.choose_spec (exZ fun r : Row => (tl (decA r.cells)).ns)
  rw [h]; simp only [dec_gC]
theorem z_tLn (q : List Ac) : tLn ⟨gC enA q, true, .cells true⟩ = (tl q).ns.length := by
  have h : tLn = _ := Classical.choose_spec (exZ fun r : Row => (tNs r).length)
  rw [h]; simp only [z_tNs]
theorem z_tHow (q : List Ac) : tHow ⟨gC enA q, true, .cells true⟩ = (tl q).how := by
  have h : tHow = _ := Classical.choose_spec (exZ fun r : Row => (tl (decA r.cells)).how)
  rw [h]; simp only [dec_gC]
theorem z_tCode (q : List Ac) : tCode ⟨gC enA q, true, .cells true⟩ = (tl q).code := by
  have h : tCode = _ := Classical.choose_spec (exZ fun r : Row => (tl (decA r.cells)).code)
  rw [h]; simp only [dec_gC]
theorem z_tPos (q : List Ac) : tPos ⟨gC enA q, true, .cells true⟩ = (tl q).pos := by
  have h : tPos = _ := Classical.choose_spec (exZ fun r : Row => (tl (decA r.cells)).pos)
  rw [h]; simp only [dec_gC]
theorem tlM_nil : ∀ f, tlM f [] = ⟨[], 0, 0, 0, 0⟩
  | 0 => rfl
  | _ + 1 => rfl
theorem tlM_eq : ∀ (n : Nat) (l : List Ac) (f f' : Nat), l.length ≤ n → l.length ≤ f → l.length ≤ f' → tlM f l = tlM f' l
  | _, [], f, f', _, _, _ => by rw [tlM_nil, tlM_nil]
  | 0, _ :: _, _, _, h, _, _ => absurd h (by simp)
  | n + 1, a :: r, f, f', h, h1, h2 => by
    simp only [List.length_cons] at h h1 h2
    obtain ⟨f, rfl⟩ : ∃ g, f = g + 1 := ⟨f - 1, by omega⟩
    obtain ⟨f', rfl⟩ : ∃ g, f' = g + 1 := ⟨f' - 1, by omega⟩
    have e1 := tlM_eq n r f f' (by omega) (by omega) (by omega)
    have l2 : (r.take (kOf a r)).length ≤ r.length := by rw [List.length_take]; omega
    have l3 : (r.drop (kOf a r)).length ≤ r.length := by rw [List.length_drop]; omega
    have e2 := tlM_eq n (r.take (kOf a r)) f f' (by omega) (by omega) (by omega)
    have e3 := tlM_eq n (r.drop (kOf a r)) f f' (by omega) (by omega) (by omega)
    simp only [tlM, e1, e2, e3]
theorem tl_nil : tl [] = ⟨[], 0, 0, 0, 0⟩ := by rw [z_tl]; rfl
theorem tl_cons (a : Ac) (r : List Ac) : tl (a :: r) = (if a.kind = 1 then ⟨a.n :: (tl r).ns, (tl r).how, (tl r).code, (tl r).pos, (tl r).dep⟩
    else if a.kind = 2 then ⟨[], 1, a.n, a.pos, 0⟩
    else if a.kind = 3 then (if a.ok then tl r else ⟨[], 1, a.n, a.pos, 0⟩)
    else if a.kind = 4 then ⟨[], 2, 0, 0, 0⟩
    else if a.kind = 5 then
      (if (tl (r.take (kOf a r))).how = 2 then ⟨(tl (r.take (kOf a r))).ns, 2, 0, 0, (tl (r.take (kOf a r))).dep + 1⟩
      else ⟨(tl (r.take (kOf a r))).ns ++ [(tl (r.take (kOf a r))).how, (tl (r.take (kOf a r))).code, (tl (r.take (kOf a r))).pos] ++ (tl (r.drop (kOf a r))).ns, (tl (r.drop (kOf a r))).how, (tl (r.drop (kOf a r))).code, (tl (r.drop (kOf a r))).pos, (tl (r.drop (kOf a r))).dep⟩)
    else tl r) := by
  have l2 : (r.take (kOf a r)).length ≤ r.length := by rw [List.length_take]; omega
  have l3 : (r.drop (kOf a r)).length ≤ r.length := by rw [List.length_drop]; omega
  rw [z_tl, z_tl r, z_tl (r.take _), z_tl (r.drop _), tlM_eq r.length (r.take (kOf a r)) _ r.length l2 (Nat.le_refl _) l2, tlM_eq r.length (r.drop (kOf a r)) _ r.length l3 (Nat.le_refl _) l3]
  rfl
theorem tl_len : ∀ (n : Nat) (l : List Ac), l.length ≤ n → (tl l).ns.length ≤ 3 * l.length
  | _, [], _ => by rw [tl_nil]; simp
  | 0, _ :: _, h => absurd h (by simp)
  | n + 1, a :: r, h => by
    simp only [List.length_cons] at h ⊢
    have e1 := tl_len n r (by omega)
    have l2 : (r.take (kOf a r)).length + (r.drop (kOf a r)).length = r.length := by rw [← List.length_append, List.take_append_drop]
    have e2 := tl_len n (r.take (kOf a r)) (by omega)
    have e3 := tl_len n (r.drop (kOf a r)) (by omega)
    rw [tl_cons]
    repeat' split
    all_goals try simp only [List.length_cons, List.length_append, List.length_nil]
    all_goals omega
theorem tl_two : ∀ (n : Nat) (l : List Ac), l.length ≤ n → (tl l).how = 2 → (tl l).code = 0 ∧ (tl l).pos = 0
  | _, [], _, h => by rw [tl_nil] at h; simp at h
  | 0, _ :: _, h, _ => absurd h (by simp)
  | n + 1, a :: r, h, h2 => by
    simp only [List.length_cons] at h
    have l3 : (r.drop (kOf a r)).length ≤ r.length := by rw [List.length_drop]; omega
    have e1 := tl_two n r (by omega)
    have e3 := tl_two n (r.drop (kOf a r)) (by omega)
    rw [tl_cons] at h2 ⊢
    split at h2
    · rename_i k; rw [if_pos k]; exact e1 h2
    rename_i k1; rw [if_neg k1]
    split at h2
    · simp at h2
    rename_i k2; rw [if_neg k2]
    split at h2
    · rename_i k; rw [if_pos k]
      split at h2
      · rename_i o; rw [if_pos o]; exact e1 h2
      · simp at h2
    rename_i k3; rw [if_neg k3]
    split at h2
    · rename_i k; rw [if_pos k]; exact ⟨rfl, rfl⟩
    rename_i k4; rw [if_neg k4]
    split at h2
    · rename_i k; rw [if_pos k]
      split at h2
      · rename_i o; rw [if_pos o]; exact ⟨rfl, rfl⟩
      · rename_i o; rw [if_neg o]; exact e3 h2
    · rename_i k; rw [if_neg k]; exact e1 h2
theorem aLen (l : List Ac) : (gC enA l).length = l.length * 5 := gC_len (en := enA) (k := 5) (fun _ => rfl) l
theorem aPl (l : List Ac) : Plain (gC enA l) := gC_plain (fun a v hv => by simp only [enA, List.mem_cons, List.not_mem_nil, or_false] at hv; rcases hv with rfl | rfl | rfl | rfl | rfl <;> rfl) l
theorem aGet (l : List Ac) (i : Nat) (h : i < l.length) : (gC enA l)[i * 5]? = some (.int .i64 l[i].kind) ∧ (gC enA l)[i * 5 + 1]? = some (.int .i64 l[i].n) ∧ (gC enA l)[i * 5 + 1 + 1]? = some (.int .i64 l[i].pos) ∧ (gC enA l)[i * 5 + 1 + 1 + 1]? = some (.int .i64 l[i].deep) ∧ (gC enA l)[i * 5 + 1 + 1 + 1 + 1]? = some (.bool l[i].ok) :=
  ⟨gC_get0 (k := 5) (fun _ => rfl) l i h (by omega), gC_get (k := 5) (fun _ => rfl) l i 1 h (by omega), gC_get (k := 5) (fun _ => rfl) l i 2 h (by omega), gC_get (k := 5) (fun _ => rfl) l i 3 h (by omega), gC_get (k := 5) (fun _ => rfl) l i 4 h (by omega)⟩
theorem aCell (l : List Ac) (i : Nat) (h : i < l.length) : cellI (gC enA l) (i * 5) = l[i].kind ∧ cellI (gC enA l) (i * 5 + 1) = l[i].n ∧ cellI (gC enA l) (i * 5 + 1 + 1) = l[i].pos ∧ cellI (gC enA l) (i * 5 + 1 + 1 + 1) = l[i].deep ∧ cellB (gC enA l) (i * 5 + 1 + 1 + 1 + 1) = l[i].ok := by
  obtain ⟨c1, c2, c3, c4, c5⟩ := aGet l i h
  unfold cellI cellB
  rw [c1, c2, c3, c4, c5]
  exact ⟨rfl, rfl, rfl, rfl, rfl⟩
theorem eWi_ok : EntOk Try.prog eWi := entC_ok (by
  intro a rows p v news h hp
  split at h <;> simp only [Option.some.injEq, Prod.mk.injEq, reduceCtorEq] at h
  obtain ⟨rfl, rfl, rfl⟩ := h
  exact within_con _ _ _ hp.1 hp.2.1 hp.2.2.1 hp.2.2.2)
def InvT (g : GT) (s : ST) : Prop := s.i ≤ g.l.length ∧ s.acc ++ (tl (g.l.drop s.i)).ns = g.z ++ (tl g.l).ns ∧ (tl (g.l.drop s.i)).how = (tl g.l).how ∧ (tl (g.l.drop s.i)).code = (tl g.l).code ∧ (tl (g.l.drop s.i)).pos = (tl g.l).pos ∧ s.acc.length ≤ g.z.length + 3 * s.i
theorem T_piece (N : Nat) (hN : EntOk Try.prog (eTo N)) : PieceOk (ETo N) 2 (23, pT, specT N) := by
  refine piece_loop mixed (calls_envT (all_cons hN (all_cons eWi_ok all_nil))) (lok_envT _ _) lm_none (n := 60) (by kernel_rfl) (fun g : GT => (⟨0, g.z⟩ : ST)) InvT (fun g s => g.l.length - s.i) (sl := slT) (rl := fun g s => rlT g.l s.acc 0 0 0) (fun g hg => ⟨Nat.zero_le _, rfl, rfl, rfl, rfl, by simp⟩) (fun g s hg hi => ?_)
  refine (T_round N g s _ _).mpr ?_
  obtain ⟨i, acc⟩ := s
  obtain ⟨l, z⟩ := g
  obtain ⟨h1, h2, h3, h4, h5, h6⟩ := hi
  obtain ⟨g1, g2, g3⟩ := hg
  simp only at h1 h2 h3 h4 h5 h6 g1 g2 g3
  have hal : acc.length ≤ z.length + 3 * l.length := by
    have := congrArg List.length h2
    have q := tl_len _ l (Nat.le_refl _)
    simp only [List.length_append] at this
    omega
  simp only [ofNat_eq, toNat_cast, Nat.zero_add, Nat.add_zero, Nat.mul_one, List.drop_zero, bCells_len, bCells_drop, bCells_take, bCells_app, bCells_one, bCells_plain, List.length_replicate, List.length_append, List.length_take, List.length_drop, List.take_length, and_true, true_and, and_self, decide_true, List.length_nil, List.length_cons, Nat.sub_zero, dB_mk, dB_ro, List.take_zero, aPl, aLen, iCells_plain, iCells_len, true_and, and_true, Nat.zero_add, List.drop_zero, Int.toNat_natCast]
  refine br_if (fun h => br_dec (by omega) ?_) (fun h => ?_)
  · have hi : i < l.length := by omega
    obtain ⟨c1, c2, c3, c4, c5⟩ := aGet l i hi
    obtain ⟨d1, d2, d3, d4, d5⟩ := aCell l i hi
    have w := i64_succ (show i < 9223372036854775807 by omega)
    have hdr : l.drop i = l[i] :: l.drop (i + 1) := List.drop_eq_getElem_cons hi
    have hok := g2 _ (List.getElem_mem hi)
    rw [hdr, tl_cons] at h2 h3 h4 h5
    generalize l[i] = a at *
    simp only [c1, c2, c3, c4, c5, d1, d2, d3, d4, d5, w, true_and]
    refine br_intro (fun k => ?_) (fun k => ?_)
    · have k : a.kind = 1 := by simpa using k
      rw [if_pos k] at h2 h3 h4 h5
      refine br_dec (by omega) (br_dec (by omega) ⟨⟨i + 1, acc ++ [a.n]⟩, ⟨by simp only; omega, by simp only [List.append_assoc]; exact h2, h3, h4, h5, by simp; omega⟩, by simp only; omega, by simp, rfl, ?_⟩)
      rw [List.take_of_length_le (by rw [iCells_len]; omega)]
      exact (iCells_app .i64 acc [a.n]).symm
    have k1 : ¬ a.kind = 1 := by simpa using k
    rw [if_neg k1] at h2 h3 h4 h5
    clear k
    refine br_intro (fun k => ?_) (fun k => ?_)
    · have k : a.kind = 2 := by simpa using k
      rw [if_pos k] at h2 h3 h4 h5
      exact ⟨⟨acc, 1, a.n, a.pos⟩, ⟨by simpa using h2, h3, h4, h5⟩, rfl, rfl, rfl, rfl, rfl⟩
    have k2 : ¬ a.kind = 2 := by simpa using k
    rw [if_neg k2] at h2 h3 h4 h5
    clear k
    refine br_intro (fun k => ?_) (fun k => ?_)
    · have k : a.kind = 3 := by simpa using k
      rw [if_pos k] at h2 h3 h4 h5
      refine br_intro (fun o => ?_) (fun o => ?_)
      · have o : a.ok = false := by simpa using o
        rw [if_neg (by simp [o])] at h2 h3 h4 h5
        exact ⟨⟨acc, 1, a.n, a.pos⟩, ⟨by simpa using h2, h3, h4, h5⟩, rfl, rfl, rfl, rfl, rfl⟩
      · have o : a.ok = true := by simpa using o
        rw [if_pos o] at h2 h3 h4 h5
        exact ⟨⟨i + 1, acc⟩, ⟨by simp only; omega, h2, h3, h4, h5, by simp only; omega⟩, by simp only; omega, rfl, rfl, rfl⟩
    have k3 : ¬ a.kind = 3 := by simpa using k
    rw [if_neg k3] at h2 h3 h4 h5
    clear k
    refine br_intro (fun k => ?_) (fun k => ?_)
    · have k : a.kind = 4 := by simpa using k
      rw [if_pos k] at h2 h3 h4 h5
      exact ⟨⟨acc, 2, 0, 0⟩, ⟨by simpa using h2, h3, h4, h5⟩, rfl, rfl, rfl, rfl, rfl⟩
    have k4 : ¬ a.kind = 4 := by simpa using k
    rw [if_neg k4] at h2 h3 h4 h5
    clear k
    refine br_intro (fun k => ?_) (fun k => ?_)
    · have k : a.kind = 5 := by simpa using k
      rw [if_pos k] at h2 h3 h4 h5
      have w2 : IntKind.i64.wrap (IntKind.i64.wrap ((l.length : Int) - (i : Nat)) - 1) = ((l.drop (i + 1)).length : Nat) := by
        rw [List.length_drop, wr64_id (n := (l.length : Int) - (i : Nat)) (by unfold I64; omega), wr64_id (by unfold I64; omega)]; omega
      obtain ⟨n1, n2⟩ := inside_in a.deep 0 ((l.drop (i + 1)).length : Nat) (by omega)
      have w3 : inside a.deep 0 ((l.drop (i + 1)).length : Nat) = (kOf a (l.drop (i + 1)) : Nat) := by unfold kOf; omega
      have hkl : kOf a (l.drop (i + 1)) ≤ (l.drop (i + 1)).length := by omega
      simp only [w2, w3]
      generalize hr : l.drop (i + 1) = r at *
      generalize kOf a r = q at *
      have hrl : r.length = l.length - (i + 1) := by rw [← hr, List.length_drop]
      have w4 : IntKind.i64.wrap (((i + 1 : Nat) : Int) + (q : Nat)) = ((i + 1 + q : Nat) : Int) := by rw [wr64_id (by unfold I64; omega)]; omega
      have w5 : IntKind.i64.wrap ((i : Nat) + (q : Nat) : Int) = ((i + q : Nat) : Int) := by rw [wr64_id (by unfold I64; omega)]; omega
      have w6 : IntKind.i64.wrap (((i + q : Nat) : Int) + 1) = ((i + q + 1 : Nat) : Int) := by rw [wr64_id (by unfold I64; omega)]; omega
      have e1 : i + 1 + q - (i + 1) = q := by omega
      have e2 : (gC enA l).drop ((i + 1) * 5) = gC enA r := by rw [gC_drop (en := enA) (k := 5) (fun _ => rfl), hr]
      have e3 : (gC enA r).take (q * 5) = gC enA (r.take q) := gC_take (en := enA) (k := 5) (fun _ => rfl) _ _
      simp only [w4, w5, w6, Int.toNat_natCast, e1, e2, e3, z_tHow, z_tNs, z_tLn, z_tCode, z_tPos, aPl, iCells_plain, dI_mk, true_and, and_true]
      have hmem : ∀ b ∈ r.take q, OkA b := fun b hb => g2 b (by rw [← hr] at hb; exact List.mem_of_mem_drop (List.mem_of_mem_take hb))
      have hql : (r.take q).length = q := by rw [List.length_take]; omega
      have hns := tl_len _ (r.take q) (Nat.le_refl _)
      rw [hql] at hns
      refine ⟨⟨hok.2.2.2, by omega, by omega, by omega⟩, br_dec (by omega) ⟨⟨by omega, ⟨_, rfl, hql.symm, by omega, hmem, by omega⟩, ⟨_, rfl, rfl⟩⟩, br_intro (fun o => ?_) (fun o => ?_)⟩⟩
      · have o : (tl (r.take q)).how = 2 := by simpa using o
        rw [if_pos o] at h2 h3 h4 h5
        obtain ⟨o1, o2⟩ := tl_two _ _ (Nat.le_refl _) o
        exact ⟨⟨acc ++ (tl (r.take q)).ns, (tl (r.take q)).how, (tl (r.take q)).code, (tl (r.take q)).pos⟩, ⟨h2, o.trans h3, o1.trans h4, o2.trans h5⟩, by simp, rfl, rfl, rfl, rfl⟩
      · have o : ¬ (tl (r.take q)).how = 2 := by simpa using o
        rw [if_neg o] at h2 h3 h4 h5
        have hdq : l.drop (i + q + 1) = r.drop q := by rw [← hr, List.drop_drop]; congr 1; omega
        refine br_dec (by omega) (br_dec (Nat.le_refl _) ⟨⟨i + q + 1, acc ++ (tl (r.take q)).ns ++ [(tl (r.take q)).how, (tl (r.take q)).code, (tl (r.take q)).pos]⟩, ⟨by simp only; omega, ?_, ?_, ?_, ?_, by simp; omega⟩, by simp only; omega, by simp; omega, rfl, ?_⟩)
        · simp only [hdq]; simpa only [List.append_assoc] using h2
        · simp only [hdq]; exact h3
        · simp only [hdq]; exact h4
        · simp only [hdq]; exact h5
        · have ht : (iCells .i64 (acc ++ (tl (r.take q)).ns)).take (acc.length + (tl (r.take q)).ns.length) = iCells .i64 (acc ++ (tl (r.take q)).ns) := List.take_of_length_le (by rw [iCells_len, List.length_append]; omega)
          simp only
          rw [ht]
          exact (iCells_app .i64 (acc ++ (tl (r.take q)).ns) [(tl (r.take q)).how, (tl (r.take q)).code, (tl (r.take q)).pos]).symm
    have k5 : ¬ a.kind = 5 := by simpa using k
    rw [if_neg k5] at h2 h3 h4 h5
    exact ⟨⟨i + 1, acc⟩, ⟨by simp only; omega, h2, h3, h4, h5, by simp only; omega⟩, by simp only; omega, rfl, rfl, rfl⟩
  · have : l.drop i = [] := List.drop_eq_nil_of_le (by omega)
    rw [this, tl_nil] at h2 h3 h4 h5
    simp only [List.append_nil] at h2
    exact ⟨⟨acc, 0, 0, 0⟩, ⟨⟨h2, h3, h4, h5⟩, rfl, rfl, rfl⟩, rfl, rfl⟩
theorem T_con (N : Nat) (hN : EntOk Try.prog (eTo N)) (l : List Ac) (z : List Int) (hl : l.length ≤ N) (ha : ∀ a ∈ l, OkA a) (hz : z.length + 3 * l.length ≤ 16000000) :
    ConM Try.prog 23 [.slice (some ⟨0, 0, none⟩) l.length 5, .slice (some ⟨1, 0, none⟩) z.length 1] [gRo enA l, iOwn .i64 z] (.tuple #[.slice (some ⟨2, 0, none⟩) (z.length + (tl l).ns.length) 1, .agg ⟨[.int .i64 (tl l).how, .int .i64 (tl l).code, .int .i64 (tl l).pos]⟩]) 3 [(2, iOwn .i64 (z ++ (tl l).ns))] := by
  rw [← List.length_append]
  refine conM_vc (E := ETo N) mixed (calls_envT (all_cons hN (all_cons eWi_ok all_nil))) (lok_envT _ _) (M := mT N) (lm_one (T_piece N hN)) (T_vc N l z _ _ _ _) ?_
  refine ⟨⟨l, z⟩, ⟨hl, ha, hz⟩, rfl, rfl, rfl, rfl, rfl, rfl, rfl, aPl _, rfl, rfl, rfl, rfl, iCells_plain _ _, fun side => ?_⟩
  refine br_intro (fun _ => ?_) (fun _ => ?_)
  · rintro ⟨acc, h, c, p⟩ ⟨⟨q1, q2, q3, q4⟩, q5, q6, q7⟩
    simp only at q1 q2 q3 q4 q5 q6 q7
    subst q1
    exact ⟨rfl, rfl, by rw [← q2, q5], by rw [← q3, q6], by rw [← q4, q7], rfl, iCells_plain _ _, trivial⟩
  · rintro ⟨acc, h, c, p⟩ ⟨q1, q2, q3, q4⟩
    simp only at q1 q2 q3 q4
    subst q1
    exact ⟨rfl, rfl, q2.symm, q3.symm, q4.symm, rfl, iCells_plain _ _, trivial⟩
theorem eTo_ok : ∀ N, EntOk Try.prog (eTo N)
  | 0 => by
    intro a rows p v n' rl he hp
    simp only [eTo] at he
    split at he
    · simp only [Option.some.injEq, Prod.mk.injEq] at he
      obtain ⟨rfl, rfl, rfl, rfl⟩ := he
      obtain ⟨⟨l, _, _, h, _⟩, _⟩ := hp
      omega
    · simp at he
  | N + 1 => by
    intro a rows p v n' rl he hp
    simp only [eTo] at he
    split at he
    · rename_i n m r0 c1
      simp only [Option.some.injEq, Prod.mk.injEq] at he
      obtain ⟨rfl, rfl, rfl, rfl⟩ := he
      obtain ⟨⟨l, rfl, rfl, h, ha, hb⟩, ⟨z, hz, rfl⟩⟩ := hp
      have := T_con N (eTo_ok N) l z (by omega) ha hb
      rw [hz]
      unfold gRo
      rw [z_tLn, z_tHow, z_tCode, z_tPos, z_tNs]
      unfold iOwn
      rw [dI_mk]
      exact this
    · simp at he
end Go.Proofs.Ytekijelmdajhlaa.gp
