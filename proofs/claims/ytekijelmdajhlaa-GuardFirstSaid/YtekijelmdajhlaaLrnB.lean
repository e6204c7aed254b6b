/- Steps, done by the program. -/
import Derived.Test.YtekijelmdajhlaaSz9
import Derived.Test.YtekijelmdajhlaaRows
import Derived.Test.YtekijelmdajhlaaLrnA
import Derived.Test.YtekijelmdajhlaaLrnM
set_option linter.unusedSimpArgs false
set_option linter.unusedVariables false
namespace Go.Proofs.Ytekijelmdajhlaa.gp
open Go Go.Ev Go.Sy Go.RowKit Go.Proofs.Ytekijelmdajhlaa.gl Go.Proofs.Ytekijelmdajhlaa.tk Go.Proofs.Ytekijelmdajhlaa.ic Go.Proofs.Ytekijelmdajhlaa.gm
def dS : ByteArray := ByteArray.mk #[105, 110, 116, 101, 103, 101, 114, 32, 100, 105, 118, 105, 100, 101, 32, 98, 121, 32, 122, 101, 114, 111]
def mkP (ok : Bool) (c p : Int) (d : Bool) (n : Int) : Value := .tuple ⟨[.nilFunc, .bool ok, .tuple ⟨[]⟩, .int .i64 23, .int .i64 c, .int .i64 p, .bool d, .int .i64 10, .string dS, .int .i64 n]⟩
noncomputable def tDep : Row → Int := Classical.choose (exZ fun r : Row => ((tl (decA r.cells)).dep : Int))
noncomputable def tOk : Row → Bool := Classical.choose (exZ fun r : Row => decide (tHow r = 0))
noncomputable def tRt : Row → Bool := Classical.choose (exZ fun r : Row => decide (tHow r = 2))
noncomputable def ePl (N : Nat) : EntM := (26, fun a r => match a, r with
  | [.slice (some ⟨0, 0, none⟩) n 5, .pointer (some ⟨1, 0, none⟩)], [r0, ⟨[.slice (some ⟨2, 0, none⟩) m 1], false, .cells false⟩, ⟨c2, false, .cells true⟩] => some (IsA N r0 n m ∧ IsZ ⟨c2, false, .cells true⟩ m, mkP (tOk r0) (tCode r0) (tPos r0) (tRt r0) (tDep r0), 4, [(1, ⟨[.slice (some ⟨3, 0, none⟩) (m + tLn r0) 1], false, .cells false⟩), (3, iOwn .i64 (dI ⟨c2, false, .cells true⟩ ++ tNs r0))])
  | _, _ => none)
noncomputable def tPl (N : Nat) : List EntM := [ePl N, eWi]
noncomputable abbrev EPl (N : Nat) : Env := envTd Try.prog (tPl N) (fun _ => [])
noncomputable def mP1 (N : Nat) := mOf [(43, [], specCallE (EPl N) 43 [] 9)]
def rb1 (n : Nat) (i k : Int) (m q : Nat) : List (Nat × Row) := [(0, ⟨[.slice (some ⟨4, 0, none⟩) n 5], false, .cells false⟩), (1, ⟨[.int .i64 i], false, .cells false⟩), (2, ⟨[.int .i64 k], false, .cells false⟩), (3, ⟨[.pointer (some ⟨5, 0, none⟩)], false, .cells false⟩), (5, ⟨[.slice (some ⟨q, 0, none⟩) m 1], false, .cells false⟩)]
def subL (r : Row) (i k : Int) : List Ac := ((decA r.cells).drop (i.toNat + 1)).take k.toNat
noncomputable def uOk : Row → Int → Int → Bool := Classical.choose (exZ fun (r : Row) (i k : Int) => decide ((tl (subL r i k)).how = 0))
noncomputable def uRt : Row → Int → Int → Bool := Classical.choose (exZ fun (r : Row) (i k : Int) => decide ((tl (subL r i k)).how = 2))
noncomputable def uCode : Row → Int → Int → Int := Classical.choose (exZ fun (r : Row) (i k : Int) => (tl (subL r i k)).code)
noncomputable def uPos : Row → Int → Int → Int := Classical.choose (exZ fun (r : Row) (i k : Int) => (tl (subL r i k)).pos)
noncomputable def uDep : Row → Int → Int → Int := Classical.choose (exZ fun (r : Row) (i k : Int) => ((tl (subL r i k)).dep : Int))
noncomputable def uNs : Row → Int → Int → List Int := Classical.choose (exZ fun (r : Row) (i k : Int) => (tl (subL r i k)).ns)
noncomputable def uLn : Row → Int → Int → Nat := Classical.choose (exZ fun (r : Row) (i k : Int) => (tl (subL r i k)).ns.length)
def Is1 (N : Nat) (r : Row) (n : Nat) (i k : Int) (m : Nat) : Prop := ∃ l, r = gRo enA l ∧ n = l.length ∧ 0 ≤ i ∧ 0 ≤ k ∧ i + 1 + k ≤ (l.length : Nat) ∧ k < (N : Nat) ∧ (∀ a ∈ l, OkA a) ∧ m + 3 * k ≤ 16000000 ∧ l.length ≤ 16000000
noncomputable def eP1 (N : Nat) : EntM := (43, fun a r => match a, r with
  | [.pointer (some ⟨0, 0, none⟩), .pointer (some ⟨1, 0, none⟩), .pointer (some ⟨2, 0, none⟩), .pointer (some ⟨3, 0, none⟩)], [⟨[.slice (some ⟨4, 0, none⟩) n 5], false, .cells false⟩, ⟨[.int .i64 i], false, .cells false⟩, ⟨[.int .i64 k], false, .cells false⟩, ⟨[.pointer (some ⟨5, 0, none⟩)], false, .cells false⟩, r4, ⟨[.slice (some ⟨6, 0, none⟩) m 1], false, .cells false⟩, ⟨c6, false, .cells true⟩] =>
    some (Is1 N r4 n i k m ∧ IsZ ⟨c6, false, .cells true⟩ m, mkP (uOk r4 i k) (uCode r4 i k) (uPos r4 i k) (uRt r4 i k) (uDep r4 i k), 8, rb1 n i k (m + uLn r4 i k) 7 ++ [(7, iOwn .i64 (dI ⟨c6, false, .cells true⟩ ++ uNs r4 i k))])
  | _, _ => none)
noncomputable def tP2 (N : Nat) : List EntM := [eP1 N, eWi]
def capP (f : FuncId) : List TypeId := bif Nat.beq f 43 then [1000032, 1000003, 1000003, 1000041] else []
noncomputable abbrev EP2 (N : Nat) : Env := envTd Try.prog (tP2 N) capP
def p14 : List Nat := [1, 0, 1, 1, 1, 1, 1, 1, 1, 0, 1, 1, 0, 0, 1, 0, 0, 1, 1]
noncomputable def mD (N : Nat) := mOf [(26, p14, specMid (EP2 N) 26 p14 7)]
def pP : List Nat := [0, 1, 1]
def slP : List (Nat × Value) := [(2, .pointer (some ⟨3, 0, none⟩)), (3, .pointer (some ⟨4, 0, none⟩)), (4, .pointer (some ⟨5, 0, none⟩))]
def rxP (acc : List Int) : List (Nat × Row) := [(1, ⟨[.slice (some ⟨6, 0, none⟩) acc.length 1], false, .cells false⟩), (6, iOwn .i64 acc)]
def rlP (l : List Ac) (s : ST) : List (Nat × Row) := [(0, gRo enA l), (1, ⟨[.slice (some ⟨6, 0, none⟩) s.acc.length 1], false, .cells false⟩), (3, ⟨[.slice (some ⟨0, 0, none⟩) l.length 5], false, .cells false⟩), (4, ⟨[.pointer (some ⟨1, 0, none⟩)], false, .cells false⟩), (5, ⟨[.int .i64 (s.i : Nat)], false, .cells false⟩), (6, iOwn .i64 s.acc)]
structure YP where
  acc : List Int
  c : Int
  p : Int
  n : Nat
def wsP (g : GT) : List (Gate YP) := [⟨.exit 0, fun y => y.acc = g.z ++ (tl g.l).ns ∧ (tl g.l).how = 0, fun _ => [], fun y => rxP y.acc, 7⟩,
  ⟨.panic [], fun y => y.acc = g.z ++ (tl g.l).ns ∧ (tl g.l).how = 1 ∧ y.c = (tl g.l).code ∧ y.p = (tl g.l).pos, fun y => [(23, .agg ⟨[.int .i64 y.c, .int .i64 y.p]⟩)], fun y => rxP y.acc, 7⟩,
  ⟨.panic [{ v := .nilFunc, recovered := true }], fun y => y.acc = g.z ++ (tl g.l).ns ∧ (tl g.l).how = 2 ∧ y.n = (tl g.l).dep, fun y => [(10, .string dS), (0, .int .i64 (y.n : Nat))], fun y => rxP y.acc, 7⟩]
noncomputable def specP (N : Nat) : Sy.Spec := specOf 3 7 100 (PT N) (fun _ => slP) (fun g => rlP g.l ⟨0, g.z⟩) wsP
noncomputable def mP (N : Nat) := mOf [(26, pP, specP N)]
theorem P1_vc (N : Nat) (l : List Ac) (z o : List Int) (i k : Int) (ok : Bool) (c p : Int) (d : Bool) (n : Int) : mcall (EPl N) (mP1 N) 60 43 [.pointer (some ⟨0, 0, none⟩), .pointer (some ⟨1, 0, none⟩), .pointer (some ⟨2, 0, none⟩), .pointer (some ⟨3, 0, none⟩)] ⟨mkR (nums 0 [⟨[.slice (some ⟨4, 0, none⟩) l.length 5], false, .cells false⟩, ⟨[.int .i64 i], false, .cells false⟩, ⟨[.int .i64 k], false, .cells false⟩, ⟨[.pointer (some ⟨5, 0, none⟩)], false, .cells false⟩, gRo enA l, ⟨[.slice (some ⟨6, 0, none⟩) z.length 1], false, .cells false⟩, iOwn .i64 z]), 7⟩ (retIsM 7 (mkP ok c p d n) 8 (rb1 l.length i k o.length 7 ++ [(7, iOwn .i64 o)])) =
  (br (decide ((0 : Int) <= IntKind.wrap IntKind.i64 (i + (1 : Int)) /\ IntKind.wrap IntKind.i64 (i + (1 : Int)) <= IntKind.wrap IntKind.i64 (IntKind.wrap IntKind.i64 (i +
  (1 : Int)) + k) /\ IntKind.wrap IntKind.i64 (IntKind.wrap IntKind.i64 (i + (1 : Int)) + k) <= (↑(List.length l) : Int))) (((((0 + Int.toNat (IntKind.wrap IntKind.i64 (i +
  (1 : Int))) * 5 + (Int.toNat (IntKind.wrap IntKind.i64 (IntKind.wrap IntKind.i64 (i + (1 : Int)) + k)) - Int.toNat (IntKind.wrap IntKind.i64 (i + (1 : Int)))) * 5 <=
  List.length (gC enA l) /\ Plain (List.take ((Int.toNat (IntKind.wrap IntKind.i64 (IntKind.wrap IntKind.i64 (i + (1 : Int)) + k)) - Int.toNat (IntKind.wrap IntKind.i64 (i +
  (1 : Int)))) * 5) (List.drop (0 + Int.toNat (IntKind.wrap IntKind.i64 (i + (1 : Int))) * 5) (gC enA l)))) /\ (True /\ True)) /\ ((True /\ ((True /\ True) /\ (Plain (iCells
  IntKind.i64 z) /\ True))) /\ ((Plain (iCells IntKind.i64 (dI (Row.mk (iCells IntKind.i64 z) false (Ob.cells true)) ++ tNs (Row.mk (List.take ((Int.toNat (IntKind.wrap
  IntKind.i64 (IntKind.wrap IntKind.i64 (i + (1 : Int)) + k)) - Int.toNat (IntKind.wrap IntKind.i64 (i + (1 : Int)))) * 5) (List.drop (0 + Int.toNat (IntKind.wrap
  IntKind.i64 (i + (1 : Int))) * 5) (gC enA l))) true (Ob.cells true)))) /\ True) /\ (IsA N (Row.mk (List.take ((Int.toNat (IntKind.wrap IntKind.i64 (IntKind.wrap
  IntKind.i64 (i + (1 : Int)) + k)) - Int.toNat (IntKind.wrap IntKind.i64 (i + (1 : Int)))) * 5) (List.drop (0 + Int.toNat (IntKind.wrap IntKind.i64 (i + (1 : Int))) * 5)
  (gC enA l))) true (Ob.cells true)) (Int.toNat (IntKind.wrap IntKind.i64 (IntKind.wrap IntKind.i64 (i + (1 : Int)) + k)) - Int.toNat (IntKind.wrap IntKind.i64 (i + (1 :
  Int)))) (List.length z) /\ IsZ (Row.mk (iCells IntKind.i64 z) false (Ob.cells true)) (List.length z)))))) /\ (br (tOk (Row.mk (List.take ((Int.toNat (IntKind.wrap
  IntKind.i64 (IntKind.wrap IntKind.i64 (i + (1 : Int)) + k)) - Int.toNat (IntKind.wrap IntKind.i64 (i + (1 : Int)))) * 5) (List.drop (0 + Int.toNat (IntKind.wrap
  IntKind.i64 (i + (1 : Int))) * 5) (gC enA l))) true (Ob.cells true))) (∀ (tm : Tr Value), ((ok = true) /\ ((0 = 0) /\ ((List.length l = List.length l) /\ ((i = i) /\ ((k =
  k) /\ ((0 = 0) /\ ((0 = 0) /\ ((List.length o = List.length z + tLn (Row.mk (List.take ((Int.toNat (IntKind.wrap IntKind.i64 (IntKind.wrap IntKind.i64 (i + (1 : Int)) +
  k)) - Int.toNat (IntKind.wrap IntKind.i64 (i + (1 : Int)))) * 5) (List.drop (0 + Int.toNat (IntKind.wrap IntKind.i64 (i + (1 : Int))) * 5) (gC enA l))) true (Ob.cells
  true))) /\ ((Eq (α := List Value) (iCells IntKind.i64 o) (iCells IntKind.i64 (dI (Row.mk (iCells IntKind.i64 z) false (Ob.cells true)) ++ tNs (Row.mk (List.take
  ((Int.toNat (IntKind.wrap IntKind.i64 (IntKind.wrap IntKind.i64 (i + (1 : Int)) + k)) - Int.toNat (IntKind.wrap IntKind.i64 (i + (1 : Int)))) * 5) (List.drop (0 +
  Int.toNat (IntKind.wrap IntKind.i64 (i + (1 : Int))) * 5) (gC enA l))) true (Ob.cells true))))) /\ ((Plain (iCells IntKind.i64 o)) /\ True))))))))))) (br (tRt (Row.mk
  (List.take ((Int.toNat (IntKind.wrap IntKind.i64 (IntKind.wrap IntKind.i64 (i + (1 : Int)) + k)) - Int.toNat (IntKind.wrap IntKind.i64 (i + (1 : Int)))) * 5) (List.drop (0
  + Int.toNat (IntKind.wrap IntKind.i64 (i + (1 : Int))) * 5) (gC enA l))) true (Ob.cells true))) (∀ (tm : Tr Value), ((ok = false) /\ ((d = true) /\ (((10 = 10 /\ (dS = dS
  /\ Eq (α := List PanicEntry) (reps 10 dS (Int.toNat (tDep (Row.mk (List.take ((Int.toNat (IntKind.wrap IntKind.i64 (IntKind.wrap IntKind.i64 (i + (1 : Int)) + k)) -
  Int.toNat (IntKind.wrap IntKind.i64 (i + (1 : Int)))) * 5) (List.drop (0 + Int.toNat (IntKind.wrap IntKind.i64 (i + (1 : Int))) * 5) (gC enA l))) true (Ob.cells true)))))
  (reps 10 dS (Int.toNat n))))) /\ ((0 = 0) /\ ((List.length l = List.length l) /\ ((i = i) /\ ((k = k) /\ ((0 = 0) /\ ((0 = 0) /\ ((List.length o = List.length z + tLn
  (Row.mk (List.take ((Int.toNat (IntKind.wrap IntKind.i64 (IntKind.wrap IntKind.i64 (i + (1 : Int)) + k)) - Int.toNat (IntKind.wrap IntKind.i64 (i + (1 : Int)))) * 5)
  (List.drop (0 + Int.toNat (IntKind.wrap IntKind.i64 (i + (1 : Int))) * 5) (gC enA l))) true (Ob.cells true))) /\ ((Eq (α := List Value) (iCells IntKind.i64 o) (iCells
  IntKind.i64 (dI (Row.mk (iCells IntKind.i64 z) false (Ob.cells true)) ++ tNs (Row.mk (List.take ((Int.toNat (IntKind.wrap IntKind.i64 (IntKind.wrap IntKind.i64 (i + (1 :
  Int)) + k)) - Int.toNat (IntKind.wrap IntKind.i64 (i + (1 : Int)))) * 5) (List.drop (0 + Int.toNat (IntKind.wrap IntKind.i64 (i + (1 : Int))) * 5) (gC enA l))) true
  (Ob.cells true))))) /\ ((Plain (iCells IntKind.i64 o)) /\ True))))))))))))) (∀ (tm : Tr Value), ((ok = false) /\ ((d = false) /\ (((23 = 23 /\ (c = tCode (Row.mk
  (List.take ((Int.toNat (IntKind.wrap IntKind.i64 (IntKind.wrap IntKind.i64 (i + (1 : Int)) + k)) - Int.toNat (IntKind.wrap IntKind.i64 (i + (1 : Int)))) * 5) (List.drop (0
  + Int.toNat (IntKind.wrap IntKind.i64 (i + (1 : Int))) * 5) (gC enA l))) true (Ob.cells true)) /\ p = tPos (Row.mk (List.take ((Int.toNat (IntKind.wrap IntKind.i64
  (IntKind.wrap IntKind.i64 (i + (1 : Int)) + k)) - Int.toNat (IntKind.wrap IntKind.i64 (i + (1 : Int)))) * 5) (List.drop (0 + Int.toNat (IntKind.wrap IntKind.i64 (i + (1 :
  Int))) * 5) (gC enA l))) true (Ob.cells true))))) /\ ((0 = 0) /\ ((List.length l = List.length l) /\ ((i = i) /\ ((k = k) /\ ((0 = 0) /\ ((0 = 0) /\ ((List.length o =
  List.length z + tLn (Row.mk (List.take ((Int.toNat (IntKind.wrap IntKind.i64 (IntKind.wrap IntKind.i64 (i + (1 : Int)) + k)) - Int.toNat (IntKind.wrap IntKind.i64 (i + (1
  : Int)))) * 5) (List.drop (0 + Int.toNat (IntKind.wrap IntKind.i64 (i + (1 : Int))) * 5) (gC enA l))) true (Ob.cells true))) /\ ((Eq (α := List Value) (iCells IntKind.i64
  o) (iCells IntKind.i64 (dI (Row.mk (iCells IntKind.i64 z) false (Ob.cells true)) ++ tNs (Row.mk (List.take ((Int.toNat (IntKind.wrap IntKind.i64 (IntKind.wrap IntKind.i64
  (i + (1 : Int)) + k)) - Int.toNat (IntKind.wrap IntKind.i64 (i + (1 : Int)))) * 5) (List.drop (0 + Int.toNat (IntKind.wrap IntKind.i64 (i + (1 : Int))) * 5) (gC enA l)))
  true (Ob.cells true))))) /\ ((Plain (iCells IntKind.i64 o)) /\ True)))))))))))))))) False) := by kernel_rfl
theorem P_round (N : Nat) (g : GT) (s : ST) (Inv : ST → Prop) (m : ST → Nat) : mev (EP2 N) (mD N) 60 26 (0 :: pP) false (codeOf Try.prog 26 (0 :: pP)) ⟨mkOv slP, 100, []⟩ none ⟨mkR (rlP g.l s), 7⟩ (roundK 3 7 100 Inv m (fun _ => slP) (rlP g.l) (wsP g) s) =
  (br (decide ((↑s.1 : Int) < Int.ofNat (List.length g.1))) (br (decide ((0 : Int) <= (↑s.1 : Int) /\ (↑s.1 : Int) < (↑(List.length g.1) : Int))) ((Eq (α := Option Value)
  ((gC enA g.1)[0 + Int.toNat (↑s.1 : Int) * 5]?) (some (Value.int IntKind.i64 (cellI (gC enA g.1) (0 + Int.toNat (↑s.1 : Int) * 5))))) /\ ((Eq (α := Option Value) ((gC enA
  g.1)[0 + Int.toNat (↑s.1 : Int) * 5 + 1]?) (some (Value.int IntKind.i64 (cellI (gC enA g.1) (0 + Int.toNat (↑s.1 : Int) * 5 + 1))))) /\ ((Eq (α := Option Value) ((gC enA
  g.1)[0 + Int.toNat (↑s.1 : Int) * 5 + 1 + 1]?) (some (Value.int IntKind.i64 (cellI (gC enA g.1) (0 + Int.toNat (↑s.1 : Int) * 5 + 1 + 1))))) /\ ((Eq (α := Option Value)
  ((gC enA g.1)[0 + Int.toNat (↑s.1 : Int) * 5 + 1 + 1 + 1]?) (some (Value.int IntKind.i64 (cellI (gC enA g.1) (0 + Int.toNat (↑s.1 : Int) * 5 + 1 + 1 + 1))))) /\ ((Eq (α :=
  Option Value) ((gC enA g.1)[0 + Int.toNat (↑s.1 : Int) * 5 + 1 + 1 + 1 + 1]?) (some (Value.bool (cellB (gC enA g.1) (0 + Int.toNat (↑s.1 : Int) * 5 + 1 + 1 + 1 + 1))))) /\
  (br (cellI (gC enA g.1) (0 + Int.toNat (↑s.1 : Int) * 5) == (1 : Int)) (br (decide (List.length s.2 + 1 <= 16777216)) (br (decide (0 + List.length s.2 * 1 <= List.length
  (iCells IntKind.i64 s.2))) ((Value.pointer (some (Addr.mk 1 0 none)) = Value.pointer (some (Addr.mk 1 0 none))) /\ ((Value.pointer (some (Addr.mk 1 0 none)) =
  Value.pointer (some (Addr.mk 1 0 none))) /\ ((Value.pointer (some (Addr.mk 1 0 none)) = Value.pointer (some (Addr.mk 1 0 none))) /\ ((Value.slice (some (Addr.mk 6 0 none))
  (List.length s.2) 1 = Value.slice (some (Addr.mk 6 0 none)) (List.length s.2) 1) /\ ((Value.int IntKind.i64 (cellI (gC enA g.1) (0 + Int.toNat (↑s.1 : Int) * 5 + 1)) =
  Value.int IntKind.i64 (cellI (gC enA g.1) (0 + Int.toNat (↑s.1 : Int) * 5 + 1))) /\ (∃ j : ST, ((Inv j) /\ ((m j < m s) /\ ((0 = 0) /\ ((0 = 0) /\ ((0 = 0) /\ ((Eq (α :=
  List Value) (gC enA g.1) (gC enA g.1)) /\ ((Plain (gC enA g.1)) /\ ((0 = 0) /\ ((List.length j.2 = List.length s.2 + 1) /\ ((0 = 0) /\ ((List.length g.1 = List.length g.1)
  /\ ((0 = 0) /\ (((↑j.1 : Int) = IntKind.wrap IntKind.i64 ((↑s.1 : Int) + (1 : Int))) /\ ((Eq (α := List Value) (iCells IntKind.i64 j.2) (List.take (List.length s.2 * 1)
  (List.drop 0 (iCells IntKind.i64 s.2)) ++ [Value.int IntKind.i64 (cellI (gC enA g.1) (0 + Int.toNat (↑s.1 : Int) * 5 + 1))])) /\ ((Plain (iCells IntKind.i64 j.2)) /\
  True))))))))))))))))))))) False) False) (br (cellI (gC enA g.1) (0 + Int.toNat (↑s.1 : Int) * 5) == (2 : Int)) (∃ y : YP, (((Eq (α := List Int) (y.1) (g.2 ++ (tl g.1).1)
  /\ ((tl g.1).2 = (1 : Int) /\ (y.2 = (tl g.1).3 /\ y.3 = (tl g.1).4)))) /\ (((23 = 23 /\ (y.2 = cellI (gC enA g.1) (0 + Int.toNat (↑s.1 : Int) * 5 + 1) /\ y.3 = cellI (gC
  enA g.1) (0 + Int.toNat (↑s.1 : Int) * 5 + 1 + 1)))) /\ ((0 = 0) /\ ((List.length y.1 = List.length s.2) /\ ((Eq (α := List Value) (iCells IntKind.i64 y.1) (iCells
  IntKind.i64 s.2)) /\ ((Plain (iCells IntKind.i64 y.1)) /\ True))))))) (br (cellI (gC enA g.1) (0 + Int.toNat (↑s.1 : Int) * 5) == (3 : Int)) (br (!cellB (gC enA g.1) (0 +
  Int.toNat (↑s.1 : Int) * 5 + 1 + 1 + 1 + 1)) (∃ y : YP, (((Eq (α := List Int) (y.1) (g.2 ++ (tl g.1).1) /\ ((tl g.1).2 = (1 : Int) /\ (y.2 = (tl g.1).3 /\ y.3 = (tl
  g.1).4)))) /\ (((23 = 23 /\ (y.2 = cellI (gC enA g.1) (0 + Int.toNat (↑s.1 : Int) * 5 + 1) /\ y.3 = cellI (gC enA g.1) (0 + Int.toNat (↑s.1 : Int) * 5 + 1 + 1)))) /\ ((0 =
  0) /\ ((List.length y.1 = List.length s.2) /\ ((Eq (α := List Value) (iCells IntKind.i64 y.1) (iCells IntKind.i64 s.2)) /\ ((Plain (iCells IntKind.i64 y.1)) /\ True)))))))
  (∃ j : ST, ((Inv j) /\ ((m j < m s) /\ ((0 = 0) /\ ((0 = 0) /\ ((0 = 0) /\ ((Eq (α := List Value) (gC enA g.1) (gC enA g.1)) /\ ((Plain (gC enA g.1)) /\ ((0 = 0) /\
  ((List.length j.2 = List.length s.2) /\ ((0 = 0) /\ ((List.length g.1 = List.length g.1) /\ ((0 = 0) /\ (((↑j.1 : Int) = IntKind.wrap IntKind.i64 ((↑s.1 : Int) + (1 :
  Int))) /\ ((Eq (α := List Value) (iCells IntKind.i64 j.2) (iCells IntKind.i64 s.2)) /\ ((Plain (iCells IntKind.i64 j.2)) /\ True))))))))))))))))) (br (cellI (gC enA g.1)
  (0 + Int.toNat (↑s.1 : Int) * 5) == (4 : Int)) ((IntKind.wrap IntKind.i64 (Int.ofNat (List.length g.1) - Int.ofNat (List.length g.1)) = (0 : Int)) /\ (∀ (tm : Tr Value),
  (∃ y : YP, (((Eq (α := List Int) (y.1) (g.2 ++ (tl g.1).1) /\ ((tl g.1).2 = (2 : Int) /\ y.4 = (tl g.1).5))) /\ (((10 = 10 /\ (dS = ByteArray.mk #[105, 110, 116, 101, 103,
  101, 114, 32, 100, 105, 118, 105, 100, 101, 32, 98, 121, 32, 122, 101, 114, 111] /\ Eq (α := List PanicEntry) ([]) (reps 10 (ByteArray.mk #[105, 110, 116, 101, 103, 101,
  114, 32, 100, 105, 118, 105, 100, 101, 32, 98, 121, 32, 122, 101, 114, 111]) (Int.toNat (↑y.4 : Int)))))) /\ ((0 = 0) /\ ((List.length y.1 = List.length s.2) /\ ((Eq (α :=
  List Value) (iCells IntKind.i64 y.1) (iCells IntKind.i64 s.2)) /\ ((Plain (iCells IntKind.i64 y.1)) /\ True))))))))) (br (cellI (gC enA g.1) (0 + Int.toNat (↑s.1 : Int) *
  5) == (5 : Int)) ((((True /\ (True /\ (True /\ True))) /\ (True /\ (True /\ (I64 (cellI (gC enA g.1) (0 + Int.toNat (↑s.1 : Int) * 5 + 1 + 1 + 1)) /\ ((-1000000000000 :
  Int) <= (0 : Int) /\ (IntKind.wrap IntKind.i64 (IntKind.wrap IntKind.i64 (Int.ofNat (List.length g.1) - (↑s.1 : Int)) - (1 : Int)) <= (1000000000000 : Int) /\ (0 : Int) <=
  IntKind.wrap IntKind.i64 (IntKind.wrap IntKind.i64 (Int.ofNat (List.length g.1) - (↑s.1 : Int)) - (1 : Int))))))))) /\ ((((True /\ (True /\ (True /\ (True /\ True)))) /\
  ((((0 + List.length g.1 * 5 <= List.length (gC enA g.1) /\ Plain (List.take (List.length g.1 * 5) (List.drop 0 (gC enA g.1)))) /\ True) /\ ((True /\ True) /\ ((True /\
  True) /\ ((True /\ True) /\ (True /\ ((True /\ True) /\ (Plain (iCells IntKind.i64 s.2) /\ True))))))) /\ ((Plain (iCells IntKind.i64 (dI (Row.mk (iCells IntKind.i64 s.2)
  false (Ob.cells true)) ++ uNs (Row.mk (List.take (List.length g.1 * 5) (List.drop 0 (gC enA g.1))) true (Ob.cells true)) (↑s.1 : Int) (inside (cellI (gC enA g.1) (0 +
  Int.toNat (↑s.1 : Int) * 5 + 1 + 1 + 1)) (0 : Int) (IntKind.wrap IntKind.i64 (IntKind.wrap IntKind.i64 (Int.ofNat (List.length g.1) - (↑s.1 : Int)) - (1 : Int)))))) /\
  True) /\ (Is1 N (Row.mk (List.take (List.length g.1 * 5) (List.drop 0 (gC enA g.1))) true (Ob.cells true)) (List.length g.1) (↑s.1 : Int) (inside (cellI (gC enA g.1) (0 +
  Int.toNat (↑s.1 : Int) * 5 + 1 + 1 + 1)) (0 : Int) (IntKind.wrap IntKind.i64 (IntKind.wrap IntKind.i64 (Int.ofNat (List.length g.1) - (↑s.1 : Int)) - (1 : Int))))
  (List.length s.2) /\ IsZ (Row.mk (iCells IntKind.i64 s.2) false (Ob.cells true)) (List.length s.2)))))) /\ (br (uOk (Row.mk (List.take (List.length g.1 * 5) (List.drop 0
  (gC enA g.1))) true (Ob.cells true)) (↑s.1 : Int) (inside (cellI (gC enA g.1) (0 + Int.toNat (↑s.1 : Int) * 5 + 1 + 1 + 1)) (0 : Int) (IntKind.wrap IntKind.i64
  (IntKind.wrap IntKind.i64 (Int.ofNat (List.length g.1) - (↑s.1 : Int)) - (1 : Int))))) (br (decide (List.length s.2 + uLn (Row.mk (List.take (List.length g.1 * 5)
  (List.drop 0 (gC enA g.1))) true (Ob.cells true)) (↑s.1 : Int) (inside (cellI (gC enA g.1) (0 + Int.toNat (↑s.1 : Int) * 5 + 1 + 1 + 1)) (0 : Int) (IntKind.wrap
  IntKind.i64 (IntKind.wrap IntKind.i64 (Int.ofNat (List.length g.1) - (↑s.1 : Int)) - (1 : Int)))) + 3 <= 16777216)) (br (decide (0 + (List.length s.2 + uLn (Row.mk
  (List.take (List.length g.1 * 5) (List.drop 0 (gC enA g.1))) true (Ob.cells true)) (↑s.1 : Int) (inside (cellI (gC enA g.1) (0 + Int.toNat (↑s.1 : Int) * 5 + 1 + 1 + 1))
  (0 : Int) (IntKind.wrap IntKind.i64 (IntKind.wrap IntKind.i64 (Int.ofNat (List.length g.1) - (↑s.1 : Int)) - (1 : Int))))) * 1 <= List.length (iCells IntKind.i64 (dI
  (Row.mk (iCells IntKind.i64 s.2) false (Ob.cells true)) ++ uNs (Row.mk (List.take (List.length g.1 * 5) (List.drop 0 (gC enA g.1))) true (Ob.cells true)) (↑s.1 : Int)
  (inside (cellI (gC enA g.1) (0 + Int.toNat (↑s.1 : Int) * 5 + 1 + 1 + 1)) (0 : Int) (IntKind.wrap IntKind.i64 (IntKind.wrap IntKind.i64 (Int.ofNat (List.length g.1) -
  (↑s.1 : Int)) - (1 : Int)))))))) ((Value.pointer (some (Addr.mk 1 0 none)) = Value.pointer (some (Addr.mk 1 0 none))) /\ ((Value.pointer (some (Addr.mk 1 0 none)) =
  Value.pointer (some (Addr.mk 1 0 none))) /\ ((Value.pointer (some (Addr.mk 1 0 none)) = Value.pointer (some (Addr.mk 1 0 none))) /\ ((Value.slice (some (Addr.mk 11 0
  none)) (List.length s.2 + uLn (Row.mk (List.take (List.length g.1 * 5) (List.drop 0 (gC enA g.1))) true (Ob.cells true)) (↑s.1 : Int) (inside (cellI (gC enA g.1) (0 +
  Int.toNat (↑s.1 : Int) * 5 + 1 + 1 + 1)) (0 : Int) (IntKind.wrap IntKind.i64 (IntKind.wrap IntKind.i64 (Int.ofNat (List.length g.1) - (↑s.1 : Int)) - (1 : Int))))) 1 =
  Value.slice (some (Addr.mk 11 0 none)) (List.length s.2 + uLn (Row.mk (List.take (List.length g.1 * 5) (List.drop 0 (gC enA g.1))) true (Ob.cells true)) (↑s.1 : Int)
  (inside (cellI (gC enA g.1) (0 + Int.toNat (↑s.1 : Int) * 5 + 1 + 1 + 1)) (0 : Int) (IntKind.wrap IntKind.i64 (IntKind.wrap IntKind.i64 (Int.ofNat (List.length g.1) -
  (↑s.1 : Int)) - (1 : Int))))) 1) /\ ((Value.int IntKind.i64 (0 : Int) = Value.int IntKind.i64 (0 : Int)) /\ ((Value.int IntKind.i64 (0 : Int) = Value.int IntKind.i64 (0 :
  Int)) /\ (∃ j : ST, ((Inv j) /\ ((m j < m s) /\ ((0 = 0) /\ ((0 = 0) /\ ((0 = 0) /\ ((Eq (α := List Value) (gC enA g.1) (gC enA g.1)) /\ ((Plain (gC enA g.1)) /\ ((0 = 0)
  /\ ((List.length j.2 = List.length s.2 + uLn (Row.mk (List.take (List.length g.1 * 5) (List.drop 0 (gC enA g.1))) true (Ob.cells true)) (↑s.1 : Int) (inside (cellI (gC enA
  g.1) (0 + Int.toNat (↑s.1 : Int) * 5 + 1 + 1 + 1)) (0 : Int) (IntKind.wrap IntKind.i64 (IntKind.wrap IntKind.i64 (Int.ofNat (List.length g.1) - (↑s.1 : Int)) - (1 :
  Int)))) + 3) /\ ((0 = 0) /\ ((List.length g.1 = List.length g.1) /\ ((0 = 0) /\ (((↑j.1 : Int) = IntKind.wrap IntKind.i64 (IntKind.wrap IntKind.i64 ((↑s.1 : Int) + inside
  (cellI (gC enA g.1) (0 + Int.toNat (↑s.1 : Int) * 5 + 1 + 1 + 1)) (0 : Int) (IntKind.wrap IntKind.i64 (IntKind.wrap IntKind.i64 (Int.ofNat (List.length g.1) - (↑s.1 :
  Int)) - (1 : Int)))) + (1 : Int))) /\ ((Eq (α := List Value) (iCells IntKind.i64 j.2) (List.take ((List.length s.2 + uLn (Row.mk (List.take (List.length g.1 * 5)
  (List.drop 0 (gC enA g.1))) true (Ob.cells true)) (↑s.1 : Int) (inside (cellI (gC enA g.1) (0 + Int.toNat (↑s.1 : Int) * 5 + 1 + 1 + 1)) (0 : Int) (IntKind.wrap
  IntKind.i64 (IntKind.wrap IntKind.i64 (Int.ofNat (List.length g.1) - (↑s.1 : Int)) - (1 : Int))))) * 1) (List.drop 0 (iCells IntKind.i64 (dI (Row.mk (iCells IntKind.i64
  s.2) false (Ob.cells true)) ++ uNs (Row.mk (List.take (List.length g.1 * 5) (List.drop 0 (gC enA g.1))) true (Ob.cells true)) (↑s.1 : Int) (inside (cellI (gC enA g.1) (0 +
  Int.toNat (↑s.1 : Int) * 5 + 1 + 1 + 1)) (0 : Int) (IntKind.wrap IntKind.i64 (IntKind.wrap IntKind.i64 (Int.ofNat (List.length g.1) - (↑s.1 : Int)) - (1 : Int))))))) ++
  [Value.int IntKind.i64 (0 : Int), Value.int IntKind.i64 (0 : Int), Value.int IntKind.i64 (0 : Int)])) /\ ((Plain (iCells IntKind.i64 j.2)) /\ True))))))))))))))))))))))
  False) False) (br (uRt (Row.mk (List.take (List.length g.1 * 5) (List.drop 0 (gC enA g.1))) true (Ob.cells true)) (↑s.1 : Int) (inside (cellI (gC enA g.1) (0 + Int.toNat
  (↑s.1 : Int) * 5 + 1 + 1 + 1)) (0 : Int) (IntKind.wrap IntKind.i64 (IntKind.wrap IntKind.i64 (Int.ofNat (List.length g.1) - (↑s.1 : Int)) - (1 : Int))))) (∃ y : YP, (((Eq
  (α := List Int) (y.1) (g.2 ++ (tl g.1).1) /\ ((tl g.1).2 = (2 : Int) /\ y.4 = (tl g.1).5))) /\ (((10 = 10 /\ (dS = dS /\ Eq (α := List PanicEntry) (PanicEntry.mk
  (Value.iface 10 (Value.string dS)) true false :: reps 10 dS (Int.toNat (uDep (Row.mk (List.take (List.length g.1 * 5) (List.drop 0 (gC enA g.1))) true (Ob.cells true))
  (↑s.1 : Int) (inside (cellI (gC enA g.1) (0 + Int.toNat (↑s.1 : Int) * 5 + 1 + 1 + 1)) (0 : Int) (IntKind.wrap IntKind.i64 (IntKind.wrap IntKind.i64 (Int.ofNat
  (List.length g.1) - (↑s.1 : Int)) - (1 : Int))))))) (reps 10 dS (Int.toNat (↑y.4 : Int)))))) /\ ((0 = 0) /\ ((List.length y.1 = List.length s.2 + uLn (Row.mk (List.take
  (List.length g.1 * 5) (List.drop 0 (gC enA g.1))) true (Ob.cells true)) (↑s.1 : Int) (inside (cellI (gC enA g.1) (0 + Int.toNat (↑s.1 : Int) * 5 + 1 + 1 + 1)) (0 : Int)
  (IntKind.wrap IntKind.i64 (IntKind.wrap IntKind.i64 (Int.ofNat (List.length g.1) - (↑s.1 : Int)) - (1 : Int))))) /\ ((Eq (α := List Value) (iCells IntKind.i64 y.1) (iCells
  IntKind.i64 (dI (Row.mk (iCells IntKind.i64 s.2) false (Ob.cells true)) ++ uNs (Row.mk (List.take (List.length g.1 * 5) (List.drop 0 (gC enA g.1))) true (Ob.cells true))
  (↑s.1 : Int) (inside (cellI (gC enA g.1) (0 + Int.toNat (↑s.1 : Int) * 5 + 1 + 1 + 1)) (0 : Int) (IntKind.wrap IntKind.i64 (IntKind.wrap IntKind.i64 (Int.ofNat
  (List.length g.1) - (↑s.1 : Int)) - (1 : Int))))))) /\ ((Plain (iCells IntKind.i64 y.1)) /\ True))))))) ((true = true) /\ (br (decide (List.length s.2 + uLn (Row.mk
  (List.take (List.length g.1 * 5) (List.drop 0 (gC enA g.1))) true (Ob.cells true)) (↑s.1 : Int) (inside (cellI (gC enA g.1) (0 + Int.toNat (↑s.1 : Int) * 5 + 1 + 1 + 1))
  (0 : Int) (IntKind.wrap IntKind.i64 (IntKind.wrap IntKind.i64 (Int.ofNat (List.length g.1) - (↑s.1 : Int)) - (1 : Int)))) + 3 <= 16777216)) (br (decide (0 + (List.length
  s.2 + uLn (Row.mk (List.take (List.length g.1 * 5) (List.drop 0 (gC enA g.1))) true (Ob.cells true)) (↑s.1 : Int) (inside (cellI (gC enA g.1) (0 + Int.toNat (↑s.1 : Int) *
  5 + 1 + 1 + 1)) (0 : Int) (IntKind.wrap IntKind.i64 (IntKind.wrap IntKind.i64 (Int.ofNat (List.length g.1) - (↑s.1 : Int)) - (1 : Int))))) * 1 <= List.length (iCells
  IntKind.i64 (dI (Row.mk (iCells IntKind.i64 s.2) false (Ob.cells true)) ++ uNs (Row.mk (List.take (List.length g.1 * 5) (List.drop 0 (gC enA g.1))) true (Ob.cells true))
  (↑s.1 : Int) (inside (cellI (gC enA g.1) (0 + Int.toNat (↑s.1 : Int) * 5 + 1 + 1 + 1)) (0 : Int) (IntKind.wrap IntKind.i64 (IntKind.wrap IntKind.i64 (Int.ofNat
  (List.length g.1) - (↑s.1 : Int)) - (1 : Int)))))))) ((Value.pointer (some (Addr.mk 1 0 none)) = Value.pointer (some (Addr.mk 1 0 none))) /\ ((Value.pointer (some (Addr.mk
  1 0 none)) = Value.pointer (some (Addr.mk 1 0 none))) /\ ((Value.pointer (some (Addr.mk 1 0 none)) = Value.pointer (some (Addr.mk 1 0 none))) /\ ((Value.slice (some
  (Addr.mk 11 0 none)) (List.length s.2 + uLn (Row.mk (List.take (List.length g.1 * 5) (List.drop 0 (gC enA g.1))) true (Ob.cells true)) (↑s.1 : Int) (inside (cellI (gC enA
  g.1) (0 + Int.toNat (↑s.1 : Int) * 5 + 1 + 1 + 1)) (0 : Int) (IntKind.wrap IntKind.i64 (IntKind.wrap IntKind.i64 (Int.ofNat (List.length g.1) - (↑s.1 : Int)) - (1 :
  Int))))) 1 = Value.slice (some (Addr.mk 11 0 none)) (List.length s.2 + uLn (Row.mk (List.take (List.length g.1 * 5) (List.drop 0 (gC enA g.1))) true (Ob.cells true)) (↑s.1
  : Int) (inside (cellI (gC enA g.1) (0 + Int.toNat (↑s.1 : Int) * 5 + 1 + 1 + 1)) (0 : Int) (IntKind.wrap IntKind.i64 (IntKind.wrap IntKind.i64 (Int.ofNat (List.length g.1)
  - (↑s.1 : Int)) - (1 : Int))))) 1) /\ ((Value.int IntKind.i64 (uCode (Row.mk (List.take (List.length g.1 * 5) (List.drop 0 (gC enA g.1))) true (Ob.cells true)) (↑s.1 :
  Int) (inside (cellI (gC enA g.1) (0 + Int.toNat (↑s.1 : Int) * 5 + 1 + 1 + 1)) (0 : Int) (IntKind.wrap IntKind.i64 (IntKind.wrap IntKind.i64 (Int.ofNat (List.length g.1) -
  (↑s.1 : Int)) - (1 : Int))))) = Value.int IntKind.i64 (uCode (Row.mk (List.take (List.length g.1 * 5) (List.drop 0 (gC enA g.1))) true (Ob.cells true)) (↑s.1 : Int)
  (inside (cellI (gC enA g.1) (0 + Int.toNat (↑s.1 : Int) * 5 + 1 + 1 + 1)) (0 : Int) (IntKind.wrap IntKind.i64 (IntKind.wrap IntKind.i64 (Int.ofNat (List.length g.1) -
  (↑s.1 : Int)) - (1 : Int)))))) /\ ((Value.int IntKind.i64 (uPos (Row.mk (List.take (List.length g.1 * 5) (List.drop 0 (gC enA g.1))) true (Ob.cells true)) (↑s.1 : Int)
  (inside (cellI (gC enA g.1) (0 + Int.toNat (↑s.1 : Int) * 5 + 1 + 1 + 1)) (0 : Int) (IntKind.wrap IntKind.i64 (IntKind.wrap IntKind.i64 (Int.ofNat (List.length g.1) -
  (↑s.1 : Int)) - (1 : Int))))) = Value.int IntKind.i64 (uPos (Row.mk (List.take (List.length g.1 * 5) (List.drop 0 (gC enA g.1))) true (Ob.cells true)) (↑s.1 : Int) (inside
  (cellI (gC enA g.1) (0 + Int.toNat (↑s.1 : Int) * 5 + 1 + 1 + 1)) (0 : Int) (IntKind.wrap IntKind.i64 (IntKind.wrap IntKind.i64 (Int.ofNat (List.length g.1) - (↑s.1 :
  Int)) - (1 : Int)))))) /\ (∃ j : ST, ((Inv j) /\ ((m j < m s) /\ ((0 = 0) /\ ((0 = 0) /\ ((0 = 0) /\ ((Eq (α := List Value) (gC enA g.1) (gC enA g.1)) /\ ((Plain (gC enA
  g.1)) /\ ((0 = 0) /\ ((List.length j.2 = List.length s.2 + uLn (Row.mk (List.take (List.length g.1 * 5) (List.drop 0 (gC enA g.1))) true (Ob.cells true)) (↑s.1 : Int)
  (inside (cellI (gC enA g.1) (0 + Int.toNat (↑s.1 : Int) * 5 + 1 + 1 + 1)) (0 : Int) (IntKind.wrap IntKind.i64 (IntKind.wrap IntKind.i64 (Int.ofNat (List.length g.1) -
  (↑s.1 : Int)) - (1 : Int)))) + 3) /\ ((0 = 0) /\ ((List.length g.1 = List.length g.1) /\ ((0 = 0) /\ (((↑j.1 : Int) = IntKind.wrap IntKind.i64 (IntKind.wrap IntKind.i64
  ((↑s.1 : Int) + inside (cellI (gC enA g.1) (0 + Int.toNat (↑s.1 : Int) * 5 + 1 + 1 + 1)) (0 : Int) (IntKind.wrap IntKind.i64 (IntKind.wrap IntKind.i64 (Int.ofNat
  (List.length g.1) - (↑s.1 : Int)) - (1 : Int)))) + (1 : Int))) /\ ((Eq (α := List Value) (iCells IntKind.i64 j.2) (List.take ((List.length s.2 + uLn (Row.mk (List.take
  (List.length g.1 * 5) (List.drop 0 (gC enA g.1))) true (Ob.cells true)) (↑s.1 : Int) (inside (cellI (gC enA g.1) (0 + Int.toNat (↑s.1 : Int) * 5 + 1 + 1 + 1)) (0 : Int)
  (IntKind.wrap IntKind.i64 (IntKind.wrap IntKind.i64 (Int.ofNat (List.length g.1) - (↑s.1 : Int)) - (1 : Int))))) * 1) (List.drop 0 (iCells IntKind.i64 (dI (Row.mk (iCells
  IntKind.i64 s.2) false (Ob.cells true)) ++ uNs (Row.mk (List.take (List.length g.1 * 5) (List.drop 0 (gC enA g.1))) true (Ob.cells true)) (↑s.1 : Int) (inside (cellI (gC
  enA g.1) (0 + Int.toNat (↑s.1 : Int) * 5 + 1 + 1 + 1)) (0 : Int) (IntKind.wrap IntKind.i64 (IntKind.wrap IntKind.i64 (Int.ofNat (List.length g.1) - (↑s.1 : Int)) - (1 :
  Int))))))) ++ [Value.int IntKind.i64 (1 : Int), Value.int IntKind.i64 (uCode (Row.mk (List.take (List.length g.1 * 5) (List.drop 0 (gC enA g.1))) true (Ob.cells true))
  (↑s.1 : Int) (inside (cellI (gC enA g.1) (0 + Int.toNat (↑s.1 : Int) * 5 + 1 + 1 + 1)) (0 : Int) (IntKind.wrap IntKind.i64 (IntKind.wrap IntKind.i64 (Int.ofNat
  (List.length g.1) - (↑s.1 : Int)) - (1 : Int))))), Value.int IntKind.i64 (uPos (Row.mk (List.take (List.length g.1 * 5) (List.drop 0 (gC enA g.1))) true (Ob.cells true))
  (↑s.1 : Int) (inside (cellI (gC enA g.1) (0 + Int.toNat (↑s.1 : Int) * 5 + 1 + 1 + 1)) (0 : Int) (IntKind.wrap IntKind.i64 (IntKind.wrap IntKind.i64 (Int.ofNat
  (List.length g.1) - (↑s.1 : Int)) - (1 : Int)))))])) /\ ((Plain (iCells IntKind.i64 j.2)) /\ True)))))))))))))))))))))) False) False)))))) (∃ j : ST, ((Inv j) /\ ((m j < m
  s) /\ ((0 = 0) /\ ((0 = 0) /\ ((0 = 0) /\ ((Eq (α := List Value) (gC enA g.1) (gC enA g.1)) /\ ((Plain (gC enA g.1)) /\ ((0 = 0) /\ ((List.length j.2 = List.length s.2) /\
  ((0 = 0) /\ ((List.length g.1 = List.length g.1) /\ ((0 = 0) /\ (((↑j.1 : Int) = IntKind.wrap IntKind.i64 ((↑s.1 : Int) + (1 : Int))) /\ ((Eq (α := List Value) (iCells
  IntKind.i64 j.2) (iCells IntKind.i64 s.2)) /\ ((Plain (iCells IntKind.i64 j.2)) /\ True)))))))))))))))))))))))))) False) (∃ y : YP, (((Eq (α := List Int) (y.1) (g.2 ++ (tl
  g.1).1) /\ (tl g.1).2 = (0 : Int))) /\ ((0 = 0) /\ ((List.length y.1 = List.length s.2) /\ ((Eq (α := List Value) (iCells IntKind.i64 y.1) (iCells IntKind.i64 s.2)) /\
  ((Plain (iCells IntKind.i64 y.1)) /\ True))))))) := by kernel_rfl
theorem P_vc (N : Nat) (l : List Ac) (z o : List Int) (ok : Bool) (c p : Int) (d : Bool) (n : Int) : mcall (EP2 N) (mP N) 60 26 [.slice (some ⟨0, 0, none⟩) l.length 5, .pointer (some ⟨1, 0, none⟩)] ⟨mkR (nums 0 [gRo enA l, ⟨[.slice (some ⟨2, 0, none⟩) z.length 1], false, .cells false⟩, iOwn .i64 z]), 3⟩ (retIsM 3 (mkP ok c p d n) 4 [(1, ⟨[.slice (some ⟨3, 0, none⟩) o.length 1], false, .cells false⟩), (3, iOwn .i64 o)]) =
  (∃ g : GT, ((PT N g) /\ ((0 = 0) /\ ((0 = 0) /\ ((0 = 0) /\ ((Eq (α := List Value) (gC enA g.1) (gC enA l)) /\ ((Plain (gC enA g.1)) /\ ((0 = 0) /\ ((List.length g.2 =
  List.length z) /\ ((0 = 0) /\ ((List.length g.1 = List.length l) /\ ((0 = 0) /\ (((↑0 : Int) = (0 : Int)) /\ ((Eq (α := List Value) (iCells IntKind.i64 g.2) (iCells
  IntKind.i64 z)) /\ ((Plain (iCells IntKind.i64 g.2)) /\ (∀ (side : Bool), (br (side) (∀ (y : YP), ((y.1 = g.2 ++ (tl g.1).1 /\ (tl g.1).2 = (0 : Int)) → ((ok = true) /\
  ((0 = 0) /\ ((List.length o = List.length y.1) /\ ((Eq (α := List Value) (iCells IntKind.i64 o) (iCells IntKind.i64 y.1)) /\ ((Plain (iCells IntKind.i64 o)) /\ True)))))))
  (∀ (side2 : Bool), (br (side2) (∀ (y : YP), ((y.1 = g.2 ++ (tl g.1).1 /\ (tl g.1).2 = (1 : Int) /\ y.2 = (tl g.1).3 /\ y.3 = (tl g.1).4) → ((ok = false) /\ ((d = false) /\
  (((23 = 23 /\ (c = y.2 /\ p = y.3))) /\ ((0 = 0) /\ ((List.length o = List.length y.1) /\ ((Eq (α := List Value) (iCells IntKind.i64 o) (iCells IntKind.i64 y.1)) /\
  ((Plain (iCells IntKind.i64 o)) /\ True))))))))) (∀ (y : YP), ((y.1 = g.2 ++ (tl g.1).1 /\ (tl g.1).2 = (2 : Int) /\ y.4 = (tl g.1).5) → ((ok = false) /\ ((d = true) /\
  (((10 = 10 /\ (dS = dS /\ Eq (α := List PanicEntry) (reps 10 dS (Int.toNat (↑y.4 : Int))) (reps 10 dS (Int.toNat n))))) /\ ((0 = 0) /\ ((List.length o = List.length y.1)
  /\ ((Eq (α := List Value) (iCells IntKind.i64 o) (iCells IntKind.i64 y.1)) /\ ((Plain (iCells IntKind.i64 o)) /\ True)))))))))))))))))))))))))))) := by kernel_rfl
theorem z_tOk (q : List Ac) : tOk ⟨gC enA q, true, .cells true⟩ = decide ((tl q).how = 0) := by
  have h : tOk = _ := Classical.choose_spec (exZ fun r : Row => decide (tHow r = 0))
  rw [h]; simp only [z_tHow]
theorem z_tRt (q : List Ac) : tRt ⟨gC enA q, true, .cells true⟩ = decide ((tl q).how = 2) := by
  have h : tRt = _ := Classical.choose_spec (exZ fun r : Row => decide (tHow r = 2))
  rw [h]; simp only [z_tHow]
theorem z_tDep (q : List Ac) : tDep ⟨gC enA q, true, .cells true⟩ = ((tl q).dep : Int) := by
  have h : tDep = _ := Classical.choose_spec (exZ fun r : Row => ((tl (decA r.cells)).dep : Int))
  rw [h]; simp only [dec_gC]
noncomputable def mkQ (q : List Ac) : Value := mkP (decide ((tl q).how = 0)) (tl q).code (tl q).pos (decide ((tl q).how = 2)) ((tl q).dep : Nat)
theorem P1_con (N : Nat) (hN : EntOk Try.prog (ePl N)) (l : List Ac) (z : List Int) (i k : Nat) (hi : i + 1 + k ≤ l.length) (hk : k < N) (ha : ∀ a ∈ l, OkA a) (hz : z.length + 3 * k ≤ 16000000) (hll : l.length ≤ 16000000) (q : List Ac) (hq : q = (l.drop (i + 1)).take k) :
    ConM Try.prog 43 [.pointer (some ⟨0, 0, none⟩), .pointer (some ⟨1, 0, none⟩), .pointer (some ⟨2, 0, none⟩), .pointer (some ⟨3, 0, none⟩)] [⟨[.slice (some ⟨4, 0, none⟩) l.length 5], false, .cells false⟩, ⟨[.int .i64 (i : Nat)], false, .cells false⟩, ⟨[.int .i64 (k : Nat)], false, .cells false⟩, ⟨[.pointer (some ⟨5, 0, none⟩)], false, .cells false⟩, gRo enA l, ⟨[.slice (some ⟨6, 0, none⟩) z.length 1], false, .cells false⟩, iOwn .i64 z]
      (mkQ q) 8 (rb1 l.length (i : Nat) (k : Nat) (z ++ (tl q).ns).length 7 ++ [(7, iOwn .i64 (z ++ (tl q).ns))]) := by
  have hc : CallsOk Try.prog (oOf (EPl N)) := calls_envTd (all_cons hN (all_cons eWi_ok all_nil))
  refine conM_vc (E := EPl N) mixed hc (lok_envTd _ _ _) (M := mP1 N) (lm_one (call_piece mixed hc)) (P1_vc N l z _ _ _ _ _ _ _ _) ?_
  have w1 := i64_succ (show i < 9223372036854775807 by omega)
  have w2 : IntKind.i64.wrap (((i + 1 : Nat) : Int) + (k : Nat)) = ((i + 1 + k : Nat) : Int) := by rw [wr64_id (by unfold I64; omega)]; omega
  have e1 : i + 1 + k - (i + 1) = k := by omega
  have e2 : (gC enA l).drop ((i + 1) * 5) = gC enA (l.drop (i + 1)) := gC_drop (en := enA) (k := 5) (fun _ => rfl) _ _
  have e3 : (gC enA (l.drop (i + 1))).take (k * 5) = gC enA q := by rw [gC_take (en := enA) (k := 5) (fun _ => rfl), hq]
  have hql : q.length = k := by rw [hq, List.length_take, List.length_drop]; omega
  have hmem : ∀ b ∈ q, OkA b := fun b hb => ha b (by rw [hq] at hb; exact List.mem_of_mem_drop (List.mem_of_mem_take hb))
  simp only [ofNat_eq, toNat_cast, Nat.zero_add, Nat.add_zero, Nat.mul_one, List.drop_zero, bCells_len, bCells_drop, bCells_take, bCells_app, bCells_one, bCells_plain, List.length_replicate, List.length_append, List.length_take, List.length_drop, List.take_length, and_true, true_and, and_self, decide_true, List.length_nil, List.length_cons, Nat.sub_zero, dB_mk, dB_ro, List.take_zero, w1, w2, e1, e2, e3, aLen, aPl, iCells_plain, dI_mk, z_tOk, z_tRt, z_tDep, z_tLn, z_tNs, z_tCode, z_tPos, Int.toNat_natCast, Nat.zero_add, true_and, and_true]
  refine br_dec (by omega) ⟨⟨by omega, ⟨q, rfl, hql.symm, by omega, hmem, by omega⟩, ⟨z, rfl, rfl⟩⟩, br_intro (fun o _ => o) (fun o => br_intro (fun o2 _ => ⟨o, o2⟩) (fun o2 _ => ⟨o, o2⟩))⟩
theorem z_u (q : List Ac) (c : Row) (i k : Int) (h : subL c i k = q) : uOk c i k = decide ((tl q).how = 0) ∧ uRt c i k = decide ((tl q).how = 2) ∧ uCode c i k = (tl q).code ∧ uPos c i k = (tl q).pos ∧ uDep c i k = ((tl q).dep : Nat) ∧ uNs c i k = (tl q).ns ∧ uLn c i k = (tl q).ns.length := by
  have h1 : uOk = _ := Classical.choose_spec (exZ fun (r : Row) (i k : Int) => decide ((tl (subL r i k)).how = 0))
  have h2 : uRt = _ := Classical.choose_spec (exZ fun (r : Row) (i k : Int) => decide ((tl (subL r i k)).how = 2))
  have h3 : uCode = _ := Classical.choose_spec (exZ fun (r : Row) (i k : Int) => (tl (subL r i k)).code)
  have h4 : uPos = _ := Classical.choose_spec (exZ fun (r : Row) (i k : Int) => (tl (subL r i k)).pos)
  have h5 : uDep = _ := Classical.choose_spec (exZ fun (r : Row) (i k : Int) => ((tl (subL r i k)).dep : Int))
  have h6 : uNs = _ := Classical.choose_spec (exZ fun (r : Row) (i k : Int) => (tl (subL r i k)).ns)
  have h7 : uLn = _ := Classical.choose_spec (exZ fun (r : Row) (i k : Int) => (tl (subL r i k)).ns.length)
  rw [h1, h2, h3, h4, h5, h6, h7]
  simp only [h]
  exact ⟨trivial, trivial, trivial, trivial, trivial, trivial, trivial⟩
theorem eP1_ok (N : Nat) (hN : EntOk Try.prog (ePl N)) : EntOk Try.prog (eP1 N) := by
  intro a rows p v n' rl he hp
  simp only [eP1] at he
  split at he
  · rename_i n i k r4 m c6
    simp only [Option.some.injEq, Prod.mk.injEq] at he
    obtain ⟨rfl, rfl, rfl, rfl⟩ := he
    obtain ⟨⟨l, rfl, rfl, g1, g2, g3, g4, g5, g6, g7⟩, ⟨z, hz, rfl⟩⟩ := hp
    obtain ⟨i, rfl⟩ : ∃ j : Nat, i = (j : Int) := ⟨i.toNat, by omega⟩
    obtain ⟨k, rfl⟩ : ∃ j : Nat, k = (j : Int) := ⟨k.toNat, by omega⟩
    have hs : subL (gRo enA l) (i : Nat) (k : Nat) = (l.drop (i + 1)).take k := by unfold subL gRo; simp only [dec_gC, Int.toNat_natCast]
    obtain ⟨u1, u2, u3, u4, u5, u6, u7⟩ := z_u _ _ _ _ hs
    have := P1_con N hN l z i k (by omega) (by omega) g5 (by omega) g7 _ rfl
    rw [hz, u1, u2, u3, u4, u5, u6, u7]
    unfold iOwn
    rw [dI_mk]
    rw [List.length_append] at this
    exact this
  · simp at he
theorem tl_zero : ∀ (n : Nat) (l : List Ac), l.length ≤ n → ((tl l).how = 0 ∧ (tl l).code = 0 ∧ (tl l).pos = 0) ∨ (tl l).how = 1 ∨ (tl l).how = 2
  | _, [], _ => by rw [tl_nil]; exact .inl ⟨rfl, rfl, rfl⟩
  | 0, _ :: _, h => absurd h (by simp)
  | n + 1, a :: r, h => by
    simp only [List.length_cons] at h
    have l3 : (r.drop (kOf a r)).length ≤ r.length := by rw [List.length_drop]; omega
    have e1 := tl_zero n r (by omega)
    have e3 := tl_zero n (r.drop (kOf a r)) (by omega)
    rw [tl_cons]
    split
    · exact e1
    split
    · exact .inr (.inl rfl)
    split
    · split
      · exact e1
      · exact .inr (.inl rfl)
    split
    · exact .inr (.inr rfl)
    split
    · split
      · exact .inr (.inr rfl)
      · exact e3
    · exact e1
def InvP (g : GT) (s : ST) : Prop := s.i ≤ g.l.length ∧ s.acc ++ (tl (g.l.drop s.i)).ns = g.z ++ (tl g.l).ns ∧ (tl (g.l.drop s.i)).how = (tl g.l).how ∧ (tl (g.l.drop s.i)).code = (tl g.l).code ∧ (tl (g.l.drop s.i)).pos = (tl g.l).pos ∧ (tl (g.l.drop s.i)).dep = (tl g.l).dep ∧ s.acc.length ≤ g.z.length + 3 * s.i
theorem P_piece (N : Nat) (hN : EntOk Try.prog (ePl N)) : PieceOk (EP2 N) 3 (26, pP, specP N) := by
  refine piece_loop mixed (calls_envTd (all_cons (eP1_ok N hN) (all_cons eWi_ok all_nil))) (lok_envTd _ _ _) (M := mD N) (lm_one (mid_piece (f := 26) (p := p14) (e := 7) mixed)) (n := 60) (by kernel_rfl) (fun g : GT => (⟨0, g.z⟩ : ST)) InvP (fun g s => g.l.length - s.i) (sl := fun _ _ => slP) (rl := fun g s => rlP g.l s) (fun g hg => ⟨Nat.zero_le _, rfl, rfl, rfl, rfl, rfl, by simp⟩) (fun g s hg hi => ?_)
  refine (P_round N g s _ _).mpr ?_
  obtain ⟨i, acc⟩ := s
  obtain ⟨l, z⟩ := g
  obtain ⟨h1, h2, h3, h4, h5, h7, h6⟩ := hi
  obtain ⟨g1, g2, g3⟩ := hg
  simp only at h1 h2 h3 h4 h5 h6 h7 g1 g2 g3
  simp only [ofNat_eq, toNat_cast, Nat.zero_add, Nat.add_zero, Nat.mul_one, List.drop_zero, bCells_len, bCells_drop, bCells_take, bCells_app, bCells_one, bCells_plain, List.length_replicate, List.length_append, List.length_take, List.length_drop, List.take_length, and_true, true_and, and_self, decide_true, List.length_nil, List.length_cons, Nat.sub_zero, dB_mk, dB_ro, List.take_zero, aPl, aLen, iCells_plain, iCells_len, true_and, and_true, Nat.zero_add, List.drop_zero, Int.toNat_natCast]
  refine br_if (fun h => br_dec (by omega) ?_) (fun h => ?_)
  · have hi : i < l.length := by omega
    obtain ⟨c1, c2, c3, c4, c5⟩ := aGet l i hi
    obtain ⟨d1, d2, d3, d4, d5⟩ := aCell l i hi
    have w := i64_succ (show i < 9223372036854775807 by omega)
    have hdr : l.drop i = l[i] :: l.drop (i + 1) := List.drop_eq_getElem_cons hi
    have hok := g2 _ (List.getElem_mem hi)
    rw [hdr, tl_cons] at h2 h3 h4 h5 h7
    generalize l[i] = a at *
    have hsub : ∀ k : Nat, subL ⟨gC enA l, true, .cells true⟩ (i : Nat) (k : Nat) = (l.drop (i + 1)).take k := fun k => by unfold subL; simp only [dec_gC, Int.toNat_natCast]
    have htk : (gC enA l).take (l.length * 5) = gC enA l := List.take_of_length_le (by rw [aLen]; omega)
    simp only [c1, c2, c3, c4, c5, d1, d2, d3, d4, d5, w, htk, true_and]
    clear c1 c2 c3 c4 c5 d1 d2 d3 d4 d5
    refine br_intro (fun k => ?_) (fun k => ?_)
    · have k : a.kind = 1 := by simpa using k
      rw [if_pos k] at h2 h3 h4 h5 h7
      refine br_dec (by omega) (br_dec (by omega) ⟨⟨i + 1, acc ++ [a.n]⟩, ⟨by simp only; omega, by simp only [List.append_assoc]; exact h2, h3, h4, h5, h7, by simp; omega⟩, by simp only; omega, by simp, rfl, ?_⟩)
      rw [List.take_of_length_le (by rw [iCells_len]; omega)]
      exact (iCells_app .i64 acc [a.n]).symm
    have k1 : ¬ a.kind = 1 := by simpa using k
    rw [if_neg k1] at h2 h3 h4 h5 h7
    clear k
    refine br_intro (fun k => ?_) (fun k => ?_)
    · have k : a.kind = 2 := by simpa using k
      rw [if_pos k] at h2 h3 h4 h5
      exact ⟨⟨acc, a.n, a.pos, 0⟩, ⟨by simpa using h2, h3.symm, h4, h5⟩, ⟨rfl, rfl⟩, rfl, rfl⟩
    have k2 : ¬ a.kind = 2 := by simpa using k
    rw [if_neg k2] at h2 h3 h4 h5 h7
    clear k
    refine br_intro (fun k => ?_) (fun k => ?_)
    · have k : a.kind = 3 := by simpa using k
      rw [if_pos k] at h2 h3 h4 h5 h7
      refine br_intro (fun o => ?_) (fun o => ?_)
      · have o : a.ok = false := by simpa using o
        rw [if_neg (by simp [o])] at h2 h3 h4 h5
        exact ⟨⟨acc, a.n, a.pos, 0⟩, ⟨by simpa using h2, h3.symm, h4, h5⟩, ⟨rfl, rfl⟩, rfl, rfl⟩
      · have o : a.ok = true := by simpa using o
        rw [if_pos o] at h2 h3 h4 h5 h7
        exact ⟨⟨i + 1, acc⟩, ⟨by simp only; omega, h2, h3, h4, h5, h7, by simp only; omega⟩, by simp only; omega, rfl, rfl, rfl⟩
    have k3 : ¬ a.kind = 3 := by simpa using k
    rw [if_neg k3] at h2 h3 h4 h5 h7
    clear k
    refine br_intro (fun k => ?_) (fun k => ?_)
    · have k : a.kind = 4 := by simpa using k
      rw [if_pos k] at h2 h3 h4 h5 h7
      exact ⟨by rw [Int.sub_self]; exact wr64_id (by unfold I64; omega), fun _ => ⟨⟨acc, 0, 0, 0⟩, ⟨by simpa using h2, h3.symm, h7⟩, ⟨rfl, rfl⟩, rfl, rfl⟩⟩
    have k4 : ¬ a.kind = 4 := by simpa using k
    rw [if_neg k4] at h2 h3 h4 h5 h7
    clear k
    refine br_intro (fun k => ?_) (fun k => ?_)
    · have k : a.kind = 5 := by simpa using k
      rw [if_pos k] at h2 h3 h4 h5 h7
      have w2 : IntKind.i64.wrap (IntKind.i64.wrap ((l.length : Int) - (i : Nat)) - 1) = ((l.drop (i + 1)).length : Nat) := by
        rw [List.length_drop, wr64_id (n := (l.length : Int) - (i : Nat)) (by unfold I64; omega), wr64_id (by unfold I64; omega)]; omega
      obtain ⟨n1, n2⟩ := inside_in a.deep 0 ((l.drop (i + 1)).length : Nat) (by omega)
      have w3 : inside a.deep 0 ((l.drop (i + 1)).length : Nat) = (kOf a (l.drop (i + 1)) : Nat) := by unfold kOf; omega
      have hkl : kOf a (l.drop (i + 1)) ≤ (l.drop (i + 1)).length := by omega
      have hsq := hsub (kOf a (l.drop (i + 1)))
      simp only [w2, w3]
      clear w2 n1 n2 w3 hsub
      generalize hr : l.drop (i + 1) = r at *
      generalize kOf a r = q at *
      have hrl : r.length = l.length - (i + 1) := by rw [← hr, List.length_drop]
      have w5 : IntKind.i64.wrap ((i : Nat) + (q : Nat) : Int) = ((i + q : Nat) : Int) := by rw [wr64_id (by unfold I64; omega)]; omega
      have w6 : IntKind.i64.wrap (((i + q : Nat) : Int) + 1) = ((i + q + 1 : Nat) : Int) := by rw [wr64_id (by unfold I64; omega)]; omega
      obtain ⟨u1, u2, u3, u4, u5, u6, u7⟩ := z_u _ _ _ _ hsq
      simp only [w5, w6, u1, u2, u3, u4, u5, u6, u7, dI_mk, Int.toNat_natCast]
      have hql : (r.take q).length = q := by rw [List.length_take]; omega
      have hns := tl_len _ (r.take q) (Nat.le_refl _)
      have hz := tl_zero _ (r.take q) (Nat.le_refl _)
      have hdq : l.drop (i + q + 1) = r.drop q := by rw [← hr, List.drop_drop]; congr 1; omega
      rw [hql] at hns
      have ht : (iCells .i64 (acc ++ (tl (r.take q)).ns)).take (acc.length + (tl (r.take q)).ns.length) = iCells .i64 (acc ++ (tl (r.take q)).ns) := List.take_of_length_le (by rw [iCells_len, List.length_append]; omega)
      refine ⟨⟨hok.2.2.2, by omega, by omega, by omega⟩, ⟨⟨by omega, aPl _⟩, ⟨l, rfl, rfl, by omega, by omega, by omega, by omega, g2, by omega, by omega⟩, ⟨acc, rfl, rfl⟩⟩, ?_⟩
      have next : ∀ x y w : Int, ¬ (tl (r.take q)).how = 2 → x = (tl (r.take q)).how → y = (tl (r.take q)).code → w = (tl (r.take q)).pos → ∃ j : ST, InvP ⟨l, z⟩ j ∧ l.length - j.i < l.length - i ∧ j.acc.length = acc.length + (tl (r.take q)).ns.length + 3 ∧ (j.i : Int) = ((i + q + 1 : Nat) : Int) ∧ iCells .i64 j.acc = (iCells .i64 (acc ++ (tl (r.take q)).ns)).take (acc.length + (tl (r.take q)).ns.length) ++ [Value.int .i64 x, Value.int .i64 y, Value.int .i64 w] := by
        rintro x y w o rfl rfl rfl
        rw [if_neg o] at h2 h3 h4 h5 h7
        refine ⟨⟨i + q + 1, acc ++ (tl (r.take q)).ns ++ [(tl (r.take q)).how, (tl (r.take q)).code, (tl (r.take q)).pos]⟩, ⟨by simp only; omega, ?_, ?_, ?_, ?_, ?_, by simp; omega⟩, by simp only; omega, by simp; omega, rfl, ?_⟩
        · simp only [hdq]; simpa only [List.append_assoc] using h2
        · simp only [hdq]; exact h3
        · simp only [hdq]; exact h4
        · simp only [hdq]; exact h5
        · simp only [hdq]; exact h7
        · rw [ht]
          exact (iCells_app .i64 (acc ++ (tl (r.take q)).ns) [(tl (r.take q)).how, (tl (r.take q)).code, (tl (r.take q)).pos]).symm
      refine br_intro (fun o => ?_) (fun o => br_intro (fun o2 => ?_) (fun o2 => ?_))
      · have o : (tl (r.take q)).how = 0 := by simpa using o
        obtain ⟨o1, o2⟩ : (tl (r.take q)).code = 0 ∧ (tl (r.take q)).pos = 0 := by
          rcases hz with hz | hz | hz
          · exact hz.2
          · rw [o] at hz; simp at hz
          · rw [o] at hz; simp at hz
        exact br_dec (by omega) (br_dec (by omega) (next 0 0 0 (by rw [o]; decide) o.symm o1.symm o2.symm))
      · have o2 : (tl (r.take q)).how = 2 := by simpa using o2
        rw [if_pos o2] at h2 h3 h4 h5 h7
        exact ⟨⟨acc ++ (tl (r.take q)).ns, 0, 0, (tl (r.take q)).dep + 1⟩, ⟨h2, h3.symm, h7⟩, rfl, by simp, rfl⟩
      · have o : ¬ (tl (r.take q)).how = 0 := by simpa using o
        have o2 : ¬ (tl (r.take q)).how = 2 := by simpa using o2
        have o3 : (tl (r.take q)).how = 1 := by
          rcases hz with hz | hz | hz
          · exact absurd hz.1 o
          · exact hz
          · exact absurd hz o2
        exact br_dec (by omega) (br_dec (by omega) (next 1 _ _ o2 o3.symm rfl rfl))
    have k5 : ¬ a.kind = 5 := by simpa using k
    rw [if_neg k5] at h2 h3 h4 h5 h7
    exact ⟨⟨i + 1, acc⟩, ⟨by simp only; omega, h2, h3, h4, h5, h7, by simp only; omega⟩, by simp only; omega, rfl, rfl, rfl⟩
  · have : l.drop i = [] := List.drop_eq_nil_of_le (by omega)
    rw [this, tl_nil] at h2 h3 h4 h5
    simp only [List.append_nil] at h2
    exact ⟨⟨acc, 0, 0, 0⟩, ⟨h2, h3.symm⟩, rfl, rfl⟩
theorem P_con (N : Nat) (hN : EntOk Try.prog (ePl N)) (l : List Ac) (z : List Int) (hl : l.length ≤ N) (ha : ∀ a ∈ l, OkA a) (hz : z.length + 3 * l.length ≤ 16000000) :
    ConM Try.prog 26 [.slice (some ⟨0, 0, none⟩) l.length 5, .pointer (some ⟨1, 0, none⟩)] [gRo enA l, ⟨[.slice (some ⟨2, 0, none⟩) z.length 1], false, .cells false⟩, iOwn .i64 z] (mkQ l) 4 [(1, ⟨[.slice (some ⟨3, 0, none⟩) (z ++ (tl l).ns).length 1], false, .cells false⟩), (3, iOwn .i64 (z ++ (tl l).ns))] := by
  refine conM_vc (E := EP2 N) mixed (calls_envTd (all_cons (eP1_ok N hN) (all_cons eWi_ok all_nil))) (lok_envTd _ _ _) (M := mP N) (lm_one (P_piece N hN)) (P_vc N l z _ _ _ _ _ _) ?_
  refine ⟨⟨l, z⟩, ⟨hl, ha, hz⟩, rfl, rfl, rfl, rfl, aPl _, rfl, rfl, rfl, rfl, rfl, rfl, rfl, iCells_plain _ _, fun side => br_intro (fun _ => ?_) (fun _ side2 => br_intro (fun _ => ?_) (fun _ => ?_))⟩
  · rintro ⟨acc, c, p, n⟩ ⟨q1, q2⟩
    simp only at q1 q2
    subst q1
    exact ⟨by simp [q2], rfl, rfl, rfl, iCells_plain _ _, trivial⟩
  · rintro ⟨acc, c, p, n⟩ ⟨q1, q2, q3, q4⟩
    simp only at q1 q2 q3 q4
    subst q1
    exact ⟨by simp [q2], by simp [q2], ⟨rfl, q3.symm, q4.symm⟩, rfl, rfl, rfl, iCells_plain _ _, trivial⟩
  · rintro ⟨acc, c, p, n⟩ ⟨q1, q2, q3⟩
    simp only at q1 q2 q3
    subst q1
    exact ⟨by simp [q2], by simp [q2], ⟨rfl, rfl, by rw [q3]⟩, rfl, rfl, rfl, iCells_plain _ _, trivial⟩
theorem ePl_ok : ∀ N, EntOk Try.prog (ePl N)
  | 0 => by
    intro a rows p v n' rl he hp
    simp only [ePl] at he
    split at he
    · simp only [Option.some.injEq, Prod.mk.injEq] at he
      obtain ⟨rfl, rfl, rfl, rfl⟩ := he
      obtain ⟨⟨l, _, _, h, _⟩, _⟩ := hp
      omega
    · simp at he
  | N + 1 => by
    intro a rows p v n' rl he hp
    simp only [ePl] at he
    split at he
    · rename_i n r0 m c2
      simp only [Option.some.injEq, Prod.mk.injEq] at he
      obtain ⟨rfl, rfl, rfl, rfl⟩ := he
      obtain ⟨⟨l, rfl, rfl, h, ha, hb⟩, ⟨z, hz, rfl⟩⟩ := hp
      have := P_con N (ePl_ok N) l z (by omega) ha hb
      rw [hz]
      unfold gRo
      rw [z_tLn, z_tOk, z_tRt, z_tDep, z_tCode, z_tPos, z_tNs]
      unfold iOwn
      rw [dI_mk]
      rw [List.length_append] at this
      exact this
    · simp at he
end Go.Proofs.Ytekijelmdajhlaa.gp
