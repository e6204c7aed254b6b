/- A reader of frames with what is left of the preface: the program's Feed. -/
import Derived.Test.YtkeiogmapogpnaaSz9
import Derived.Test.YtkeiogmapogpnaaRows
import Derived.Test.YtkeiogmapogpnaaLfm
set_option linter.unusedSimpArgs false
set_option linter.unusedVariables false
namespace Go.Proofs.Ytkeiogmapogpnaa.fe
open Go Go.Ev Go.Sy Go.RowKit Go.Proofs.Ytkeiogmapogpnaa.s9 Go.Proofs.Ytkeiogmapogpnaa.fd Go.Proofs.Ytkeiogmapogpnaa.gl
def bz (l : List UInt8) : ByteArray := ⟨l.toArray⟩
def rdQ (q k n : Nat) (m : Int) (st : List UInt8) (sc co : Int) : Row := ⟨[.slice (some ⟨q, k, none⟩) n 1, .int .i64 m, .string (bz st), .int .i64 sc, .int .i64 co, .int .i64 0], false, .cells false⟩
structure G3 where
  x : List UInt8
  m : Int
  k : Nat
  st : List UInt8
noncomputable def rlE3 (st x : List UInt8) (m : Int) (l : List Bf) (k : Nat) : List (Nat × Row) := [(0, rdQ 4 k (x.length - k) m st 0 0), (3, badR 0 0 0), (4, bOwn x), (5, gOwn enG l)]
noncomputable def wsE3 (st x : List UInt8) (m : Int) (k0 : Nat) : List (Gate Se) :=
  [⟨.exit 2, fun s => s.2 ≤ x.length ∧ k0 ≤ s.2 ∧ run m x.length (x.drop k0) = (s.1, s.2 - k0, false), fun s => [(5, .pointer (some ⟨3, 0, none⟩)), (6, slc4 5 s.1.length)], fun s => rlE3 st x m s.1 s.2, 6⟩,
   ⟨.ret, fun s => ∃ k, run m x.length (x.drop k0) = (s.1, k, true), fun s => [(4, slc4 5 s.1.length), (5, .pointer (some ⟨3, 0, none⟩))], fun s => [(0, rdB m), (3, badR 2 6 0), (5, gOwn enG s.1)], 6⟩]
noncomputable def specE3 : Sy.Spec := specOf 3 6 130 (fun g : G3 => g.x.length ≤ 16777216 ∧ g.k ≤ g.x.length) (fun _ => slE []) (fun g => rlE3 g.st g.x g.m [] g.k) (fun g => wsE3 g.st g.x g.m g.k)
def pP : List Nat := [0, 0, 1, 1]
structure Gp where
  x : List UInt8
  m : Int
  k : Nat
  s : List UInt8
  b : List UInt8
def agr (s b : List UInt8) (j : Nat) : Prop := ∀ i < j, s.getD i 0 = b.getD i 0
def slP (g : Gp) (j : Nat) : List (Nat × Value) := [(0, .pointer (some ⟨0, 0, none⟩)), (1, .slice (some ⟨1, j, none⟩) (g.b.length - j) 1), (5, .pointer (some ⟨3, 0, none⟩))]
noncomputable def rlP (g : Gp) (j : Nat) : List (Nat × Row) := [(0, rdQ 2 g.k (g.x.length - g.k) g.m (g.s.drop j) 0 0), (1, bRo g.b), (2, bOwn g.x), (3, badR 0 0 0)]
def DoneP (g : Gp) (j : Nat) : Prop := j ≤ g.s.length ∧ j ≤ g.b.length ∧ agr g.s g.b j ∧ (g.s.length ≤ j ∨ g.b.length ≤ j)
def MissP (g : Gp) : Prop := ∃ j, j < g.s.length ∧ j < g.b.length ∧ agr g.s g.b j ∧ g.s.getD j 0 ≠ g.b.getD j 0
noncomputable def wsP (g : Gp) : List (Gate Nat) := [⟨.exit 0, fun j => DoneP g j, fun j => slP g j, fun j => rlP g j, 4⟩,
  ⟨.ret, fun _ => MissP g, fun _ => [(4, .slice none 0 0), (5, .pointer (some ⟨3, 0, none⟩))], fun _ => [(0, ⟨[.slice none 0 0, .int .i64 g.m, .string ⟨#[]⟩, .int .i64 2, .int .i64 1, .int .i64 0], false, .cells false⟩), (3, badR 2 1 0)], 4⟩]
noncomputable def specP : Sy.Spec := specOf 3 4 130 (fun _ : Gp => True) (fun g => slP g 0) (fun g => rlP g 0) wsP
noncomputable def mP := mOf [(14, pP, specP), (14, pE, specE3)]
instance (s b : List UInt8) (j : Nat) : Decidable (agr s b j) := by unfold agr; infer_instance
def mn (s b : List UInt8) : Nat := min s.length b.length
def okP (s b : List UInt8) : Bool := decide (agr s b (mn s b))
structure Rq where
  r : Rd
  s : List UInt8
  c : Int
def fqL (m : Int) (q : Rq) (b : List UInt8) : List Bf := if q.r.bad then [] else if okP q.s b then fdL m q.r (b.drop (mn q.s b)) else []
def fqB (m : Int) (q : Rq) (b : List UInt8) : Bool := q.r.bad || !okP q.s b || fdB m q.r (b.drop (mn q.s b))
def fqS (m : Int) (q : Rq) (b : List UInt8) : Rd := if q.r.bad then q.r else if okP q.s b then fdS m q.r (b.drop (mn q.s b)) else ⟨[], 0, true⟩
def fqT (m : Int) (q : Rq) (b : List UInt8) : List UInt8 := if q.r.bad then q.s else if okP q.s b then (if fdB m q.r (b.drop (mn q.s b)) then [] else q.s.drop (mn q.s b)) else []
def fqC (m : Int) (q : Rq) (b : List UInt8) : Int := if q.r.bad then q.c else if okP q.s b then coB (fdB m q.r (b.drop (mn q.s b))) else 1
theorem E3_round (st x : List UInt8) (m : Int) (l : List Bf) (k k0 : Nat) (Inv : Se → Prop) (q : Se → Nat) : mev EtF noM 60 14 (0 :: pE) false (codeOf Try.prog 14 (0 :: pE)) ⟨mkOv (slE l), 130, []⟩ none ⟨mkR (rlE3 st x m l k), 6⟩ (roundK 3 6 130 Inv q (fun s => slE s.1) (fun s => rlE3 st x m s.1 s.2) (wsE3 st x m k0) (l, k)) =
  (br (decide (Int.ofNat (List.length x - k) ≥ (9 : Int))) (br (decide ((0 : Int) <= (0 : Int) /\ (0 : Int) < (↑(List.length x - k) : Int))) ((Eq (α := Option Value)
  ((bCells x)[k + 0]?) (some (Value.int IntKind.u8 (cellI (bCells x) (k + 0))))) /\ (br (decide ((0 : Int) <= (1 : Int) /\ (1 : Int) < (↑(List.length x - k) : Int))) ((Eq (α
  := Option Value) ((bCells x)[k + 1]?) (some (Value.int IntKind.u8 (cellI (bCells x) (k + 1))))) /\ (br (decide ((0 : Int) <= (2 : Int) /\ (2 : Int) < (↑(List.length x - k)
  : Int))) ((Eq (α := Option Value) ((bCells x)[k + 2]?) (some (Value.int IntKind.u8 (cellI (bCells x) (k + 2))))) /\ ((Value.slice (some (Addr.mk 4 k none)) (List.length x
  - k) 1 = Value.slice (some (Addr.mk 4 k none)) (List.length x - k) 1) /\ ((Eq (α := Option Value) ((bCells x)[k + 0]?) (some (Value.int IntKind.u8 (cellI (bCells x) (k +
  0))))) /\ ((Value.int IntKind.u8 (cellI (bCells x) (k + 0)) = Value.int IntKind.u8 (cellI (bCells x) (k + 0))) /\ ((Value.int IntKind.i64 (IntKind.wrap IntKind.i64 (cellI
  (bCells x) (k + 0))) = Value.int IntKind.i64 (IntKind.wrap IntKind.i64 (cellI (bCells x) (k + 0)))) /\ ((Value.slice (some (Addr.mk 4 k none)) (List.length x - k) 1 =
  Value.slice (some (Addr.mk 4 k none)) (List.length x - k) 1) /\ ((Eq (α := Option Value) ((bCells x)[k + 1]?) (some (Value.int IntKind.u8 (cellI (bCells x) (k + 1))))) /\
  ((Value.int IntKind.u8 (cellI (bCells x) (k + 1)) = Value.int IntKind.u8 (cellI (bCells x) (k + 1))) /\ ((Value.int IntKind.i64 (IntKind.wrap IntKind.i64 (cellI (bCells x)
  (k + 1))) = Value.int IntKind.i64 (IntKind.wrap IntKind.i64 (cellI (bCells x) (k + 1)))) /\ ((Value.slice (some (Addr.mk 4 k none)) (List.length x - k) 1 = Value.slice
  (some (Addr.mk 4 k none)) (List.length x - k) 1) /\ ((Eq (α := Option Value) ((bCells x)[k + 2]?) (some (Value.int IntKind.u8 (cellI (bCells x) (k + 2))))) /\ ((Value.int
  IntKind.u8 (cellI (bCells x) (k + 2)) = Value.int IntKind.u8 (cellI (bCells x) (k + 2))) /\ ((Value.int IntKind.i64 (IntKind.wrap IntKind.i64 (cellI (bCells x) (k + 2))) =
  Value.int IntKind.i64 (IntKind.wrap IntKind.i64 (cellI (bCells x) (k + 2)))) /\ (br (decide (ior IntKind.i64 (ior IntKind.i64 (ishl IntKind.i64 (IntKind.wrap IntKind.i64
  (cellI (bCells x) (k + 0))) (16 : Int)) (ishl IntKind.i64 (IntKind.wrap IntKind.i64 (cellI (bCells x) (k + 1))) (8 : Int))) (IntKind.wrap IntKind.i64 (cellI (bCells x) (k
  + 2))) > m)) (∃ y : Se, ((∃ k, run m (List.length x) (List.drop k0 x) = (Prod.fst y, k, true)) /\ ((0 = 0) /\ ((List.length y.1 = List.length l) /\ ((0 = 0) /\ ((m = m) /\
  ((ByteArray.mk #[] = ByteArray.mk #[]) /\ (((2 : Int) = (2 : Int)) /\ (((6 : Int) = (6 : Int)) /\ (((0 : Int) = (0 : Int)) /\ (((2 : Int) = (2 : Int)) /\ (((6 : Int) = (6
  : Int)) /\ (((0 : Int) = (0 : Int)) /\ ((Eq (α := List Value) (gC enG y.1) (gC enG l)) /\ ((Plain (gC enG y.1)) /\ True))))))))))))))) (br (decide (Int.ofNat (List.length
  x - k) < IntKind.wrap IntKind.i64 ((9 : Int) + ior IntKind.i64 (ior IntKind.i64 (ishl IntKind.i64 (IntKind.wrap IntKind.i64 (cellI (bCells x) (k + 0))) (16 : Int)) (ishl
  IntKind.i64 (IntKind.wrap IntKind.i64 (cellI (bCells x) (k + 1))) (8 : Int))) (IntKind.wrap IntKind.i64 (cellI (bCells x) (k + 2)))))) (∃ y : Se, (((y.2 <= List.length x
  /\ (k0 <= y.2 /\ run m (List.length x) (List.drop k0 x) = (y.1, y.2 - k0, false)))) /\ ((0 = 0) /\ ((0 = 0) /\ ((List.length y.1 = List.length l) /\ ((y.2 = k) /\
  ((List.length x - y.2 = List.length x - k) /\ ((m = m) /\ ((bz st = bz st) /\ (((0 : Int) = (0 : Int)) /\ (((0 : Int) = (0 : Int)) /\ (((0 : Int) = (0 : Int)) /\ (((0 :
  Int) = (0 : Int)) /\ (((0 : Int) = (0 : Int)) /\ (((0 : Int) = (0 : Int)) /\ ((Eq (α := List Value) (bCells x) (bCells x)) /\ ((Plain (bCells x)) /\ ((Eq (α := List Value)
  (gC enG y.1) (gC enG l)) /\ ((Plain (gC enG y.1)) /\ True))))))))))))))))))) (br (decide ((0 : Int) <= (↑0 : Int) /\ (0 : Int) <= IntKind.wrap IntKind.i64 ((9 : Int) + ior
  IntKind.i64 (ior IntKind.i64 (ishl IntKind.i64 (IntKind.wrap IntKind.i64 (cellI (bCells x) (k + 0))) (16 : Int)) (ishl IntKind.i64 (IntKind.wrap IntKind.i64 (cellI (bCells
  x) (k + 1))) (8 : Int))) (IntKind.wrap IntKind.i64 (cellI (bCells x) (k + 2)))) /\ IntKind.wrap IntKind.i64 ((9 : Int) + ior IntKind.i64 (ior IntKind.i64 (ishl IntKind.i64
  (IntKind.wrap IntKind.i64 (cellI (bCells x) (k + 0))) (16 : Int)) (ishl IntKind.i64 (IntKind.wrap IntKind.i64 (cellI (bCells x) (k + 1))) (8 : Int))) (IntKind.wrap
  IntKind.i64 (cellI (bCells x) (k + 2)))) <= (↑(List.length x - k) : Int))) (((((k + 0 + (Int.toNat (IntKind.wrap IntKind.i64 ((9 : Int) + ior IntKind.i64 (ior IntKind.i64
  (ishl IntKind.i64 (IntKind.wrap IntKind.i64 (cellI (bCells x) (k + 0))) (16 : Int)) (ishl IntKind.i64 (IntKind.wrap IntKind.i64 (cellI (bCells x) (k + 1))) (8 : Int)))
  (IntKind.wrap IntKind.i64 (cellI (bCells x) (k + 2))))) - 0) * 1 <= List.length (bCells x) /\ Plain (List.take ((Int.toNat (IntKind.wrap IntKind.i64 ((9 : Int) + ior
  IntKind.i64 (ior IntKind.i64 (ishl IntKind.i64 (IntKind.wrap IntKind.i64 (cellI (bCells x) (k + 0))) (16 : Int)) (ishl IntKind.i64 (IntKind.wrap IntKind.i64 (cellI (bCells
  x) (k + 1))) (8 : Int))) (IntKind.wrap IntKind.i64 (cellI (bCells x) (k + 2))))) - 0) * 1) (List.drop (k + 0) (bCells x)))) /\ True) /\ ((True /\ True) /\ ((Plain (bCells
  (List.drop 9 (dB (Row.mk (List.take ((Int.toNat (IntKind.wrap IntKind.i64 ((9 : Int) + ior IntKind.i64 (ior IntKind.i64 (ishl IntKind.i64 (IntKind.wrap IntKind.i64 (cellI
  (bCells x) (k + 0))) (16 : Int)) (ishl IntKind.i64 (IntKind.wrap IntKind.i64 (cellI (bCells x) (k + 1))) (8 : Int))) (IntKind.wrap IntKind.i64 (cellI (bCells x) (k +
  2))))) - 0) * 1) (List.drop (k + 0) (bCells x))) true (Ob.cells true))))) /\ True) /\ (IsB (Row.mk (List.take ((Int.toNat (IntKind.wrap IntKind.i64 ((9 : Int) + ior
  IntKind.i64 (ior IntKind.i64 (ishl IntKind.i64 (IntKind.wrap IntKind.i64 (cellI (bCells x) (k + 0))) (16 : Int)) (ishl IntKind.i64 (IntKind.wrap IntKind.i64 (cellI (bCells
  x) (k + 1))) (8 : Int))) (IntKind.wrap IntKind.i64 (cellI (bCells x) (k + 2))))) - 0) * 1) (List.drop (k + 0) (bCells x))) true (Ob.cells true)) (Int.toNat (IntKind.wrap
  IntKind.i64 ((9 : Int) + ior IntKind.i64 (ior IntKind.i64 (ishl IntKind.i64 (IntKind.wrap IntKind.i64 (cellI (bCells x) (k + 0))) (16 : Int)) (ishl IntKind.i64
  (IntKind.wrap IntKind.i64 (cellI (bCells x) (k + 1))) (8 : Int))) (IntKind.wrap IntKind.i64 (cellI (bCells x) (k + 2))))) - 0) /\ (9 <= Int.toNat (IntKind.wrap IntKind.i64
  ((9 : Int) + ior IntKind.i64 (ior IntKind.i64 (ishl IntKind.i64 (IntKind.wrap IntKind.i64 (cellI (bCells x) (k + 0))) (16 : Int)) (ishl IntKind.i64 (IntKind.wrap
  IntKind.i64 (cellI (bCells x) (k + 1))) (8 : Int))) (IntKind.wrap IntKind.i64 (cellI (bCells x) (k + 2))))) - 0 /\ Int.toNat (IntKind.wrap IntKind.i64 ((9 : Int) + ior
  IntKind.i64 (ior IntKind.i64 (ishl IntKind.i64 (IntKind.wrap IntKind.i64 (cellI (bCells x) (k + 0))) (16 : Int)) (ishl IntKind.i64 (IntKind.wrap IntKind.i64 (cellI (bCells
  x) (k + 1))) (8 : Int))) (IntKind.wrap IntKind.i64 (cellI (bCells x) (k + 2))))) - 0 <= 16777216)))))) /\ (br (decide (0 + (Int.toNat (IntKind.wrap IntKind.i64 ((9 : Int)
  + ior IntKind.i64 (ior IntKind.i64 (ishl IntKind.i64 (IntKind.wrap IntKind.i64 (cellI (bCells x) (k + 0))) (16 : Int)) (ishl IntKind.i64 (IntKind.wrap IntKind.i64 (cellI
  (bCells x) (k + 1))) (8 : Int))) (IntKind.wrap IntKind.i64 (cellI (bCells x) (k + 2))))) - 0 - 9) * 1 <= List.length (bCells (List.drop 9 (dB (Row.mk (List.take
  ((Int.toNat (IntKind.wrap IntKind.i64 ((9 : Int) + ior IntKind.i64 (ior IntKind.i64 (ishl IntKind.i64 (IntKind.wrap IntKind.i64 (cellI (bCells x) (k + 0))) (16 : Int))
  (ishl IntKind.i64 (IntKind.wrap IntKind.i64 (cellI (bCells x) (k + 1))) (8 : Int))) (IntKind.wrap IntKind.i64 (cellI (bCells x) (k + 2))))) - 0) * 1) (List.drop (k + 0)
  (bCells x))) true (Ob.cells true))))))) ((gAll (shown (bCells (List.drop 9 (dB (Row.mk (List.take ((Int.toNat (IntKind.wrap IntKind.i64 ((9 : Int) + ior IntKind.i64 (ior
  IntKind.i64 (ishl IntKind.i64 (IntKind.wrap IntKind.i64 (cellI (bCells x) (k + 0))) (16 : Int)) (ishl IntKind.i64 (IntKind.wrap IntKind.i64 (cellI (bCells x) (k + 1))) (8
  : Int))) (IntKind.wrap IntKind.i64 (cellI (bCells x) (k + 2))))) - 0) * 1) (List.drop (k + 0) (bCells x))) true (Ob.cells true))))) 0 (Int.toNat (IntKind.wrap IntKind.i64
  ((9 : Int) + ior IntKind.i64 (ior IntKind.i64 (ishl IntKind.i64 (IntKind.wrap IntKind.i64 (cellI (bCells x) (k + 0))) (16 : Int)) (ishl IntKind.i64 (IntKind.wrap
  IntKind.i64 (cellI (bCells x) (k + 1))) (8 : Int))) (IntKind.wrap IntKind.i64 (cellI (bCells x) (k + 2))))) - 0 - 9) 1) = true) /\ (br (decide (List.length l + 1 <=
  16777216)) (br (decide (0 + List.length l * 4 <= List.length (gC enG l))) (br (decide ((0 : Int) <= IntKind.wrap IntKind.i64 ((9 : Int) + ior IntKind.i64 (ior IntKind.i64
  (ishl IntKind.i64 (IntKind.wrap IntKind.i64 (cellI (bCells x) (k + 0))) (16 : Int)) (ishl IntKind.i64 (IntKind.wrap IntKind.i64 (cellI (bCells x) (k + 1))) (8 : Int)))
  (IntKind.wrap IntKind.i64 (cellI (bCells x) (k + 2)))) /\ IntKind.wrap IntKind.i64 ((9 : Int) + ior IntKind.i64 (ior IntKind.i64 (ishl IntKind.i64 (IntKind.wrap
  IntKind.i64 (cellI (bCells x) (k + 0))) (16 : Int)) (ishl IntKind.i64 (IntKind.wrap IntKind.i64 (cellI (bCells x) (k + 1))) (8 : Int))) (IntKind.wrap IntKind.i64 (cellI
  (bCells x) (k + 2)))) <= (↑(List.length x - k) : Int) /\ (↑(List.length x - k) : Int) <= (↑(List.length x - k) : Int))) (∃ j : Se, ((Inv j) /\ ((q j < q (l, k)) /\ ((0 =
  0) /\ ((0 = 0) /\ ((0 = 0) /\ ((List.length j.1 = List.length l + 1) /\ ((j.2 = k + Int.toNat (IntKind.wrap IntKind.i64 ((9 : Int) + ior IntKind.i64 (ior IntKind.i64 (ishl
  IntKind.i64 (IntKind.wrap IntKind.i64 (cellI (bCells x) (k + 0))) (16 : Int)) (ishl IntKind.i64 (IntKind.wrap IntKind.i64 (cellI (bCells x) (k + 1))) (8 : Int)))
  (IntKind.wrap IntKind.i64 (cellI (bCells x) (k + 2))))) * 1) /\ ((List.length x - j.2 = Int.toNat (↑(List.length x - k) : Int) - Int.toNat (IntKind.wrap IntKind.i64 ((9 :
  Int) + ior IntKind.i64 (ior IntKind.i64 (ishl IntKind.i64 (IntKind.wrap IntKind.i64 (cellI (bCells x) (k + 0))) (16 : Int)) (ishl IntKind.i64 (IntKind.wrap IntKind.i64
  (cellI (bCells x) (k + 1))) (8 : Int))) (IntKind.wrap IntKind.i64 (cellI (bCells x) (k + 2)))))) /\ ((m = m) /\ ((bz st = bz st) /\ (((0 : Int) = (0 : Int)) /\ (((0 : Int)
  = (0 : Int)) /\ (((0 : Int) = (0 : Int)) /\ (((0 : Int) = (0 : Int)) /\ (((0 : Int) = (0 : Int)) /\ (((0 : Int) = (0 : Int)) /\ ((Eq (α := List Value) (bCells x) (bCells
  x)) /\ ((Plain (bCells x)) /\ ((Eq (α := List Value) (gC enG j.1) (List.take (List.length l * 4) (List.drop 0 (gC enG l)) ++ [Value.int IntKind.i64 (↑(zT (Row.mk
  (List.take ((Int.toNat (IntKind.wrap IntKind.i64 ((9 : Int) + ior IntKind.i64 (ior IntKind.i64 (ishl IntKind.i64 (IntKind.wrap IntKind.i64 (cellI (bCells x) (k + 0))) (16
  : Int)) (ishl IntKind.i64 (IntKind.wrap IntKind.i64 (cellI (bCells x) (k + 1))) (8 : Int))) (IntKind.wrap IntKind.i64 (cellI (bCells x) (k + 2))))) - 0) * 1) (List.drop (k
  + 0) (bCells x))) true (Ob.cells true))) : Int), Value.int IntKind.i64 (↑(zG (Row.mk (List.take ((Int.toNat (IntKind.wrap IntKind.i64 ((9 : Int) + ior IntKind.i64 (ior
  IntKind.i64 (ishl IntKind.i64 (IntKind.wrap IntKind.i64 (cellI (bCells x) (k + 0))) (16 : Int)) (ishl IntKind.i64 (IntKind.wrap IntKind.i64 (cellI (bCells x) (k + 1))) (8
  : Int))) (IntKind.wrap IntKind.i64 (cellI (bCells x) (k + 2))))) - 0) * 1) (List.drop (k + 0) (bCells x))) true (Ob.cells true))) : Int), Value.int IntKind.i64 (↑(zS
  (Row.mk (List.take ((Int.toNat (IntKind.wrap IntKind.i64 ((9 : Int) + ior IntKind.i64 (ior IntKind.i64 (ishl IntKind.i64 (IntKind.wrap IntKind.i64 (cellI (bCells x) (k +
  0))) (16 : Int)) (ishl IntKind.i64 (IntKind.wrap IntKind.i64 (cellI (bCells x) (k + 1))) (8 : Int))) (IntKind.wrap IntKind.i64 (cellI (bCells x) (k + 2))))) - 0) * 1)
  (List.drop (k + 0) (bCells x))) true (Ob.cells true))) : Int), Value.slice (some (Addr.mk (gCode (shown (bCells (List.drop 9 (dB (Row.mk (List.take ((Int.toNat
  (IntKind.wrap IntKind.i64 ((9 : Int) + ior IntKind.i64 (ior IntKind.i64 (ishl IntKind.i64 (IntKind.wrap IntKind.i64 (cellI (bCells x) (k + 0))) (16 : Int)) (ishl
  IntKind.i64 (IntKind.wrap IntKind.i64 (cellI (bCells x) (k + 1))) (8 : Int))) (IntKind.wrap IntKind.i64 (cellI (bCells x) (k + 2))))) - 0) * 1) (List.drop (k + 0) (bCells
  x))) true (Ob.cells true))))) 0 (Int.toNat (IntKind.wrap IntKind.i64 ((9 : Int) + ior IntKind.i64 (ior IntKind.i64 (ishl IntKind.i64 (IntKind.wrap IntKind.i64 (cellI
  (bCells x) (k + 0))) (16 : Int)) (ishl IntKind.i64 (IntKind.wrap IntKind.i64 (cellI (bCells x) (k + 1))) (8 : Int))) (IntKind.wrap IntKind.i64 (cellI (bCells x) (k +
  2))))) - 0 - 9) 1)) 0 (some 0))) (Int.toNat (IntKind.wrap IntKind.i64 ((9 : Int) + ior IntKind.i64 (ior IntKind.i64 (ishl IntKind.i64 (IntKind.wrap IntKind.i64 (cellI
  (bCells x) (k + 0))) (16 : Int)) (ishl IntKind.i64 (IntKind.wrap IntKind.i64 (cellI (bCells x) (k + 1))) (8 : Int))) (IntKind.wrap IntKind.i64 (cellI (bCells x) (k +
  2))))) - 0 - 9) 1])) /\ ((Plain (gC enG j.1)) /\ True))))))))))))))))))))) False) False) False)) False)) False)))))))))))))))) False)) False)) False) (∃ y : Se, (((y.2 <=
  List.length x /\ (k0 <= y.2 /\ run m (List.length x) (List.drop k0 x) = (y.1, y.2 - k0, false)))) /\ ((0 = 0) /\ ((0 = 0) /\ ((List.length y.1 = List.length l) /\ ((y.2 =
  k) /\ ((List.length x - y.2 = List.length x - k) /\ ((m = m) /\ ((bz st = bz st) /\ (((0 : Int) = (0 : Int)) /\ (((0 : Int) = (0 : Int)) /\ (((0 : Int) = (0 : Int)) /\
  (((0 : Int) = (0 : Int)) /\ (((0 : Int) = (0 : Int)) /\ (((0 : Int) = (0 : Int)) /\ ((Eq (α := List Value) (bCells x) (bCells x)) /\ ((Plain (bCells x)) /\ ((Eq (α := List
  Value) (gC enG y.1) (gC enG l)) /\ ((Plain (gC enG y.1)) /\ True)))))))))))))))))))) := by kernel_rfl
theorem P_round (g : Gp) (j : Nat) (Inv : Nat → Prop) (q : Nat → Nat) : mev EtF noM 60 14 (0 :: pP) false (codeOf Try.prog 14 (0 :: pP)) ⟨mkOv (slP g j), 130, []⟩ none ⟨mkR (rlP g j), 4⟩ (roundK 3 4 130 Inv q (fun j => slP g j) (fun j => rlP g j) (wsP g) j) =
  (br (decide (Int.ofNat (List.length (Array.toList (ByteArray.data (bz (List.drop j g.4))))) > (0 : Int))) (br (decide (Int.ofNat (List.length g.5 - j) > (0 : Int))) (br
  (decide ((0 : Int) <= (0 : Int) /\ (0 : Int) < (↑(List.length g.5 - j) : Int))) ((Eq (α := Option Value) ((bCells g.5)[j + 0]?) (some (Value.int IntKind.u8 (cellI (bCells
  g.5) (j + 0))))) /\ (br (decide ((0 : Int) <= (0 : Int) /\ (0 : Int) < (↑(List.length (Array.toList (ByteArray.data (bz (List.drop j g.4))))) : Int))) ((Eq (α := Option
  Value) ((bCells g.5)[j + 0]?) (some (Value.int IntKind.u8 (cellI (bCells g.5) (j + 0))))) /\ ((Value.int IntKind.u8 (cellI (bCells g.5) (j + 0)) = Value.int IntKind.u8
  (cellI (bCells g.5) (j + 0))) /\ ((Value.string (bz (List.drop j g.4)) = Value.string (bz (List.drop j g.4))) /\ (br (cellI (bCells g.5) (j + 0) != byteAt (bz (List.drop j
  g.4)) 0) (∃ y : Nat, ((MissP g) /\ ((0 = 0) /\ ((g.2 = g.2) /\ ((ByteArray.mk #[] = ByteArray.mk #[]) /\ (((2 : Int) = (2 : Int)) /\ (((1 : Int) = (1 : Int)) /\ (((0 :
  Int) = (0 : Int)) /\ (((2 : Int) = (2 : Int)) /\ (((1 : Int) = (1 : Int)) /\ (((0 : Int) = (0 : Int)) /\ True))))))))))) (br (decide ((0 : Int) <= (1 : Int) /\ (1 : Int)
  <= (↑(List.length g.5 - j) : Int) /\ (↑(List.length g.5 - j) : Int) <= (↑(List.length g.5 - j) : Int))) (br (decide ((0 : Int) <= (1 : Int) /\ (1 : Int) <= (↑(List.length
  (Array.toList (ByteArray.data (bz (List.drop j g.4))))) : Int) /\ (↑(List.length (Array.toList (ByteArray.data (bz (List.drop j g.4))))) : Int) <= (↑(List.length
  (Array.toList (ByteArray.data (bz (List.drop j g.4))))) : Int))) (br (decide ((0 : Int) <= (1 : Int) /\ (1 : Int) <= (↑(List.length g.5 - j) : Int) /\ (↑(List.length g.5 -
  j) : Int) <= (↑(List.length g.5 - j) : Int))) ((Value.slice (some (Addr.mk 1 (j + 1) none)) (Int.toNat (↑(List.length g.5 - j) : Int) - 1) 1 = Value.slice (some (Addr.mk 1
  (j + 1) none)) (Int.toNat (↑(List.length g.5 - j) : Int) - 1) 1) /\ ((Value.string (bz (List.drop j g.4)) = Value.string (bz (List.drop j g.4))) /\ (br (decide ((0 : Int)
  <= (1 : Int) /\ (1 : Int) <= (↑(List.length (Array.toList (ByteArray.data (bz (List.drop j g.4))))) : Int) /\ (↑(List.length (Array.toList (ByteArray.data (bz (List.drop j
  g.4))))) : Int) <= (↑(List.length (Array.toList (ByteArray.data (bz (List.drop j g.4))))) : Int))) ((Value.string (sub (bz (List.drop j g.4)) 1 (Int.toNat (↑(List.length
  (Array.toList (ByteArray.data (bz (List.drop j g.4))))) : Int))) = Value.string (sub (bz (List.drop j g.4)) 1 (Int.toNat (↑(List.length (Array.toList (ByteArray.data (bz
  (List.drop j g.4))))) : Int)))) /\ (∃ j2 : Nat, ((Inv j2) /\ ((q j2 < q j) /\ ((0 = 0) /\ ((j2 = j + 1) /\ ((List.length g.5 - j2 = Int.toNat (↑(List.length g.5 - j) :
  Int) - 1) /\ ((0 = 0) /\ ((g.3 = g.3) /\ ((List.length g.1 - g.3 = List.length g.1 - g.3) /\ ((g.2 = g.2) /\ ((bz (List.drop j2 g.4) = sub (bz (List.drop j g.4)) 1
  (Int.toNat (↑(List.length (Array.toList (ByteArray.data (bz (List.drop j g.4))))) : Int))) /\ (((0 : Int) = (0 : Int)) /\ (((0 : Int) = (0 : Int)) /\ (((0 : Int) = (0 :
  Int)) /\ ((Eq (α := List Value) (bCells g.5) (bCells g.5)) /\ ((Plain (bCells g.5)) /\ ((Eq (α := List Value) (bCells g.1) (bCells g.1)) /\ ((Plain (bCells g.1)) /\ (((0 :
  Int) = (0 : Int)) /\ (((0 : Int) = (0 : Int)) /\ (((0 : Int) = (0 : Int)) /\ True)))))))))))))))))))))) False))) False) False) False))))) False)) False) (∃ y : Nat,
  ((DoneP g y) /\ ((0 = 0) /\ ((y = j) /\ ((List.length g.5 - y = List.length g.5 - j) /\ ((0 = 0) /\ ((g.3 = g.3) /\ ((List.length g.1 - g.3 = List.length g.1 - g.3) /\
  ((g.2 = g.2) /\ ((bz (List.drop y g.4) = bz (List.drop j g.4)) /\ (((0 : Int) = (0 : Int)) /\ (((0 : Int) = (0 : Int)) /\ (((0 : Int) = (0 : Int)) /\ ((Eq (α := List
  Value) (bCells g.5) (bCells g.5)) /\ ((Plain (bCells g.5)) /\ ((Eq (α := List Value) (bCells g.1) (bCells g.1)) /\ ((Plain (bCells g.1)) /\ (((0 : Int) = (0 : Int)) /\
  (((0 : Int) = (0 : Int)) /\ (((0 : Int) = (0 : Int)) /\ True))))))))))))))))))))) (∃ y : Nat, ((DoneP g y) /\ ((0 = 0) /\ ((y = j) /\ ((List.length g.5 - y = List.length
  g.5 - j) /\ ((0 = 0) /\ ((g.3 = g.3) /\ ((List.length g.1 - g.3 = List.length g.1 - g.3) /\ ((g.2 = g.2) /\ ((bz (List.drop y g.4) = bz (List.drop j g.4)) /\ (((0 : Int) =
  (0 : Int)) /\ (((0 : Int) = (0 : Int)) /\ (((0 : Int) = (0 : Int)) /\ ((Eq (α := List Value) (bCells g.5) (bCells g.5)) /\ ((Plain (bCells g.5)) /\ ((Eq (α := List Value)
  (bCells g.1) (bCells g.1)) /\ ((Plain (bCells g.1)) /\ (((0 : Int) = (0 : Int)) /\ (((0 : Int) = (0 : Int)) /\ (((0 : Int) = (0 : Int)) /\ True))))))))))))))))))))) := by kernel_rfl
theorem Q_vc (x b s x2 s2 : List UInt8) (k k2 : Nat) (m sc co sc2 co2 : Int) (l : List Bf) : mcall EtF mP 60 14 [.pointer (some ⟨0, 0, none⟩), slc 1 b.length] ⟨mkR (nums 0 [rdQ 2 k (x.length - k) m s sc co, bRo b, bOwn x]), 3⟩ (retIsM 3 (.tuple ⟨[slc4 5 l.length, badV sc2 co2 0]⟩) 6 [(0, rdQ 4 k2 (x2.length - k2) m s2 sc2 co2), (4, bOwn x2), (5, gOwn enG l)]) =
  (br (sc != (0 : Int)) ((Value.agg (Array.mk [Value.int IntKind.i64 sc, Value.int IntKind.i64 co, Value.int IntKind.i64 (0 : Int)]) = Value.agg (Array.mk [Value.int
  IntKind.i64 sc, Value.int IntKind.i64 co, Value.int IntKind.i64 (0 : Int)])) /\ ((List.length l = 0) /\ ((sc2 = sc) /\ ((co2 = co) /\ (((0 : Int) = (0 : Int)) /\ ((k2 = k)
  /\ ((List.length x2 - k2 = List.length x - k) /\ ((m = m) /\ ((bz s2 = bz s) /\ ((sc2 = sc) /\ ((co2 = co) /\ (((0 : Int) = (0 : Int)) /\ ((Eq (α := List Value) (bCells
  x2) (bCells x)) /\ ((Plain (bCells x2)) /\ ((Eq (α := List Value) (gC enG l) ([])) /\ True))))))))))))))) (∃ g : Gp, ((True) /\ ((0 = 0) /\ ((0 = 0) /\ ((List.length g.5 -
  0 = List.length b) /\ ((0 = 0) /\ ((g.3 = k) /\ ((List.length g.1 - g.3 = List.length x - k) /\ ((g.2 = m) /\ ((bz (List.drop 0 g.4) = bz s) /\ (((0 : Int) = sc) /\ (((0 :
  Int) = co) /\ (((0 : Int) = (0 : Int)) /\ ((Eq (α := List Value) (bCells g.5) (bCells b)) /\ ((Plain (bCells g.5)) /\ ((Eq (α := List Value) (bCells g.1) (bCells x)) /\
  ((Plain (bCells g.1)) /\ (((0 : Int) = (0 : Int)) /\ (((0 : Int) = (0 : Int)) /\ (((0 : Int) = (0 : Int)) /\ (∀ (side : Bool), (br (side) (∀ (y : Nat), ((DoneP g y) → (br
  (decide (y + (List.length g.5 - y) * 1 <= List.length (bCells g.5))) (br (allOne (List.take ((List.length g.5 - y) * 1) (List.drop y (bCells g.5)))) (br (decide
  (List.length g.1 - g.3 + (List.length g.5 - y) <= 16777216)) (br (decide (0 < List.length g.1 - g.3 + (List.length g.5 - y) ∨ List.length (bCells g.1) = 0)) (br (decide
  (g.3 + (List.length g.1 - g.3) * 1 <= List.length (bCells g.1))) (∃ g2 : G3, ((List.length g2.1 <= 16777216 /\ g2.3 <= List.length g2.1) /\ ((0 = 0) /\ ((0 = 0) /\ ((0 =
  0) /\ ((g2.3 = 0) /\ ((List.length g2.1 - g2.3 = List.length g.1 - g.3 + (List.length g.5 - y)) /\ ((g2.2 = g.2) /\ ((bz g2.4 = bz (List.drop y g.4)) /\ (((0 : Int) = (0 :
  Int)) /\ (((0 : Int) = (0 : Int)) /\ (((0 : Int) = (0 : Int)) /\ (((0 : Int) = (0 : Int)) /\ (((0 : Int) = (0 : Int)) /\ (((0 : Int) = (0 : Int)) /\ ((Eq (α := List Value)
  (bCells g2.1) (List.take ((List.length g.1 - g.3) * 1) (List.drop g.3 (bCells g.1)) ++ List.take ((List.length g.5 - y) * 1) (List.drop y (bCells g.5)))) /\ ((Plain
  (bCells g2.1)) /\ ((Eq (α := List Value) ([]) ([])) /\ (∀ (side2 : Bool), (br (side2) (∀ (y2 : Se), ((y2.2 <= List.length g2.1 /\ g2.3 <= y2.2 /\ run (G3.m g2)
  (List.length (G3.x g2)) (List.drop (G3.k g2) (G3.x g2)) = (Prod.fst y2, Prod.snd y2 - G3.k g2, false)) → ((0 = 0) /\ ((List.length l = List.length y2.1) /\ ((sc2 = (0 :
  Int)) /\ ((co2 = (0 : Int)) /\ (((0 : Int) = (0 : Int)) /\ ((k2 = y2.2) /\ ((List.length x2 - k2 = List.length g2.1 - y2.2) /\ ((m = g2.2) /\ ((bz s2 = bz g2.4) /\ ((sc2 =
  (0 : Int)) /\ ((co2 = (0 : Int)) /\ (((0 : Int) = (0 : Int)) /\ ((Eq (α := List Value) (bCells x2) (bCells g2.1)) /\ ((Plain (bCells x2)) /\ ((Eq (α := List Value) (gC enG
  l) (gC enG y2.1)) /\ ((Plain (gC enG l)) /\ True)))))))))))))))))) (∀ (y2 : Se), ((∃ k, run (G3.m g2) (List.length (G3.x g2)) (List.drop (G3.k g2) (G3.x g2)) = (Prod.fst
  y2, k, true)) → ((0 = 0) /\ ((List.length l = List.length y2.1) /\ ((sc2 = (2 : Int)) /\ ((co2 = (6 : Int)) /\ (((0 : Int) = (0 : Int)) /\ ((List.length x2 - k2 = 0) /\
  ((m = g2.2) /\ ((bz s2 = ByteArray.mk #[]) /\ ((sc2 = (2 : Int)) /\ ((co2 = (6 : Int)) /\ (((0 : Int) = (0 : Int)) /\ ((Eq (α := List Value) (bCells x2) ([])) /\ ((Eq (α
  := List Value) (gC enG l) (gC enG y2.1)) /\ ((Plain (gC enG l)) /\ True)))))))))))))))))))))))))))))))))))) False) (∃ g2 : G3, ((List.length g2.1 <= 16777216 /\ g2.3 <=
  List.length g2.1) /\ ((0 = 0) /\ ((0 = 0) /\ ((0 = 0) /\ ((g2.3 = g.3) /\ ((List.length g2.1 - g2.3 = List.length g.1 - g.3) /\ ((g2.2 = g.2) /\ ((bz g2.4 = bz (List.drop
  y g.4)) /\ (((0 : Int) = (0 : Int)) /\ (((0 : Int) = (0 : Int)) /\ (((0 : Int) = (0 : Int)) /\ (((0 : Int) = (0 : Int)) /\ (((0 : Int) = (0 : Int)) /\ (((0 : Int) = (0 :
  Int)) /\ ((Eq (α := List Value) (bCells g2.1) (bCells g.1)) /\ ((Plain (bCells g2.1)) /\ ((Eq (α := List Value) ([]) ([])) /\ (∀ (side2 : Bool), (br (side2) (∀ (y2 : Se),
  ((y2.2 <= List.length g2.1 /\ g2.3 <= y2.2 /\ run (G3.m g2) (List.length (G3.x g2)) (List.drop (G3.k g2) (G3.x g2)) = (Prod.fst y2, Prod.snd y2 - G3.k g2, false)) → ((0 =
  0) /\ ((List.length l = List.length y2.1) /\ ((sc2 = (0 : Int)) /\ ((co2 = (0 : Int)) /\ (((0 : Int) = (0 : Int)) /\ ((k2 = y2.2) /\ ((List.length x2 - k2 = List.length
  g2.1 - y2.2) /\ ((m = g2.2) /\ ((bz s2 = bz g2.4) /\ ((sc2 = (0 : Int)) /\ ((co2 = (0 : Int)) /\ (((0 : Int) = (0 : Int)) /\ ((Eq (α := List Value) (bCells x2) (bCells
  g2.1)) /\ ((Plain (bCells x2)) /\ ((Eq (α := List Value) (gC enG l) (gC enG y2.1)) /\ ((Plain (gC enG l)) /\ True)))))))))))))))))) (∀ (y2 : Se), ((∃ k, run (G3.m g2)
  (List.length (G3.x g2)) (List.drop (G3.k g2) (G3.x g2)) = (Prod.fst y2, k, true)) → ((0 = 0) /\ ((List.length l = List.length y2.1) /\ ((sc2 = (2 : Int)) /\ ((co2 = (6 :
  Int)) /\ (((0 : Int) = (0 : Int)) /\ ((List.length x2 - k2 = 0) /\ ((m = g2.2) /\ ((bz s2 = ByteArray.mk #[]) /\ ((sc2 = (2 : Int)) /\ ((co2 = (6 : Int)) /\ (((0 : Int) =
  (0 : Int)) /\ ((Eq (α := List Value) (bCells x2) ([])) /\ ((Eq (α := List Value) (gC enG l) (gC enG y2.1)) /\ ((Plain (gC enG l)) /\
  True))))))))))))))))))))))))))))))))))))) False) False) False))) (∀ (y : Nat), ((MissP g) → ((List.length l = 0) /\ ((sc2 = (2 : Int)) /\ ((co2 = (1 : Int)) /\ (((0 : Int)
  = (0 : Int)) /\ ((List.length x2 - k2 = 0) /\ ((m = g.2) /\ ((bz s2 = ByteArray.mk #[]) /\ ((sc2 = (2 : Int)) /\ ((co2 = (1 : Int)) /\ (((0 : Int) = (0 : Int)) /\ ((Eq (α
  := List Value) (bCells x2) ([])) /\ ((Eq (α := List Value) (gC enG l) ([])) /\ True))))))))))))))))))))))))))))))))))))) := by kernel_rfl
theorem E3_piece : PieceOk EtF 3 (14, pE, specE3) := by
  refine piece_loop mixed (calls_envT tF_ok) (lok_envT _ _) lm_none (n := 60) (by kernel_rfl) (fun g : G3 => (([], g.k) : Se)) (fun g s => InvE ⟨g.x, g.m, g.k⟩ s) (fun g s => g.x.length - s.2) (sl := fun _ s => slE s.1) (rl := fun g s => rlE3 g.st g.x g.m s.1 s.2) (fun g hg => ⟨hg.2, Nat.le_refl _, Nat.zero_le _, by simp⟩) (fun g s hg hi => ?_)
  obtain ⟨x, m, k0, st⟩ := g
  obtain ⟨l, k⟩ := s
  have hg : x.length ≤ 16777216 := hg.1
  obtain ⟨h1, h0, h2, h3⟩ := hi
  simp only at h0 h1 h2 h3
  refine (E3_round st x m l k k0 _ _).mpr ?_
  have hy : (x.drop k).length = x.length - k := List.length_drop
  have hst := run_step m (n := x.length) (x := x.drop k) (by omega)
  refine br_if (fun h9 => ?_) (fun h9 => ?_)
  · have h9 : 9 ≤ x.length - k := by have : (9 : Int) ≤ ((x.length - k : Nat) : Int) := h9; omega
    rw [if_neg (by omega)] at hst
    have at' : ∀ i, i < 9 → ((bCells x)[k + i]? = some (Value.int IntKind.u8 (cellI (bCells x) (k + i)))) := fun i hi => bCells_at (by omega)
    have a0 : (bCells x)[k]? = some (Value.int IntKind.u8 (cellI (bCells x) k)) := bCells_at (by omega)
    have hl : lenF (x.drop k) = bt x k * 65536 + bt x (k + 1) * 256 + bt x (k + 2) := by unfold lenF; rw [bt_drop, bt_drop, bt_drop, Nat.add_zero]
    have hlt := len_lt (x.drop k)
    have hn3 := num3 (bt x k) (bt x (k + 1)) (bt x (k + 2)) (bt_lt _ _) (bt_lt _ _) (bt_lt _ _)
    rw [← hl] at hn3
    simp (disch := omega) only [ofNat_eq, toNat_cast, Nat.zero_add, Nat.add_zero, Nat.mul_one, List.drop_zero, bCells_len, bCells_drop, bCells_take, bCells_app, bCells_one, bCells_plain, List.length_replicate, List.length_append, List.length_take, List.length_drop, List.take_length, and_true, true_and, and_self, decide_true, List.length_nil, List.length_cons, Nat.sub_zero, dB_mk, dB_ro, List.take_zero, a0, at' 1, at' 2, bt_c, hn3, brD]
    generalize hL : lenF (x.drop k) = L at *
    have w9 : IntKind.i64.wrap (9 + (L : Int)) = ((9 + L : Nat) : Int) := by rw [wr64_id (by unfold I64; omega)]; omega
    simp only [w9, toNat_cast]
    refine br_if (fun hm => ?_) (fun hm => br_if (fun hs => ?_) (fun hs => ?_))
    · rw [if_pos hm] at hst
      rw [hst] at h3
      refine ⟨(l, 0), ⟨k - k0, ?_⟩, rfl, rfl, enG_pl _⟩
      rw [h3]; simp
    · rw [if_neg hm, if_pos (by omega)] at hst
      rw [hst] at h3
      refine ⟨(l, k), ⟨h1, h0, ?_⟩, rfl, rfl, rfl, rfl, enG_pl _⟩
      rw [h3]; simp
    · have hs' : 9 + L ≤ x.length - k := by omega
      rw [if_neg hm, if_neg (by omega)] at hst
      rw [hst] at h3
      have ht : (List.take (9 + L) (List.drop k x)).length = 9 + L := by rw [List.length_take]; omega
      have hp : (List.drop 9 (List.take (9 + L) (List.drop k x))).length = L := by rw [List.length_drop, ht]; omega
      have hsh : shown (bCells (List.drop 9 (List.take (9 + L) (List.drop k x)))) 0 (9 + L - 9) 1 = bCells (List.drop 9 (List.take (9 + L) (List.drop k x))) := by
        unfold shown; rw [List.drop_zero, List.take_of_length_le (by rw [bCells_len, hp]; omega)]
      have hdd : List.drop (9 + L) (List.drop k x) = List.drop (k + (9 + L)) x := by rw [List.drop_drop]
      have tk : List.take (l.length * 4) (gC enG l) = gC enG l := List.take_of_length_le (by rw [gC_len enG_k]; omega)
      refine br_dec (by omega) ⟨⟨by omega, isB_mk _ _ ht.symm, by omega, by omega⟩, br_dec (by omega) ⟨?_, br_dec (by rw [gC_len enG_k]; omega) (br_dec (by omega) ⟨(l ++ [fr1 (List.drop k x)], k + (9 + L)), ⟨by simp only; omega, by simp only; omega, by simp only [List.length_append, List.length_cons, List.length_nil]; omega, ?_⟩, by simp only; omega, by simp, rfl, by simp only; omega, ?_, enG_pl _⟩)⟩⟩
      · rw [hsh]; exact bCells_g _
      · simp only
        rw [h3, hdd]
        generalize run m x.length (List.drop (k + (9 + L)) x) = r
        obtain ⟨r1, r2, r3⟩ := r
        simp only [List.append_assoc, List.singleton_append, Prod.mk.injEq, true_and, and_true]
        omega
      · simp only
        rw [← gC_app, tk, hsh, z_T, z_G, z_S]
        have e3 : bt (List.take (9 + L) (List.drop k x)) 3 = bt (List.drop k x) 3 := bt_take (by omega)
        have e4 : bt (List.take (9 + L) (List.drop k x)) 4 = bt (List.drop k x) 4 := bt_take (by omega)
        have es : strF (List.take (9 + L) (List.drop k x)) = strF (List.drop k x) := by
          unfold strF
          rw [bt_take (by omega), bt_take (by omega), bt_take (by omega), bt_take (by omega)]
        have hf : fr1 (List.drop k x) = ⟨bt (List.drop k x) 3, bt (List.drop k x) 4, strF (List.drop k x), List.drop 9 (List.take (9 + L) (List.drop k x))⟩ := by unfold fr1; rw [hL]
        rw [e3, e4, es, hf]
        have : (9 + L - 9) = (List.drop 9 (List.take (9 + L) (List.drop k x))).length := by omega
        rw [this]
        rfl
  · have h9 : x.length - k < 9 := by have : ¬ (9 : Int) ≤ ((x.length - k : Nat) : Int) := h9; omega
    rw [if_pos (by omega)] at hst
    rw [hst] at h3
    simp only [ofNat_eq, toNat_cast, Nat.zero_add, Nat.add_zero, Nat.mul_one, List.drop_zero, bCells_len, bCells_drop, bCells_take, bCells_app, bCells_one, bCells_plain, List.length_replicate, List.length_append, List.length_take, List.length_drop, List.take_length, and_true, true_and, and_self, decide_true, List.length_nil, List.length_cons, Nat.sub_zero, dB_mk, dB_ro, List.take_zero]
    refine ⟨(l, k), ⟨h1, h0, ?_⟩, rfl, rfl, rfl, rfl, enG_pl _⟩
    rw [h3]; simp
theorem bz_len (l : List UInt8) : (bz l).data.toList.length = l.length := by simp [bz]
theorem bz_sub (l : List UInt8) : sub (bz l) 1 l.length = bz (l.drop 1) := by
  show bz ((l.drop 1).take (l.length - 1)) = _
  rw [List.take_of_length_le (by rw [List.length_drop]; exact Nat.le_refl _)]
theorem bz_at (l : List UInt8) : byteAt (bz l) 0 = ((l.getD 0 0).toNat : Int) := by
  unfold byteAt bz
  cases l <;> simp
theorem getD_drop (l : List UInt8) (j : Nat) : (l.drop j).getD 0 0 = l.getD j 0 := by
  rw [List.getD_eq_getElem?_getD, List.getD_eq_getElem?_getD, List.getElem?_drop, Nat.add_zero]
theorem P_piece : PieceOk EtF 3 (14, pP, specP) := by
  refine piece_loop mixed (calls_envT tF_ok) (lok_envT _ _) lm_none (n := 60) (by kernel_rfl) (fun _ : Gp => (0 : Nat)) (fun g j => j ≤ g.s.length ∧ j ≤ g.b.length ∧ agr g.s g.b j) (fun g j => g.b.length - j) (sl := slP) (rl := rlP) (fun g hg => ⟨Nat.zero_le _, Nat.zero_le _, fun i hi => absurd hi (Nat.not_lt_zero _)⟩) (fun g j hg hi => ?_)
  refine (P_round g j _ _).mpr ?_
  obtain ⟨h1, h2, h3⟩ := hi
  simp only [ofNat_eq, toNat_cast, Nat.zero_add, Nat.add_zero, Nat.mul_one, List.drop_zero, bCells_len, bCells_drop, bCells_take, bCells_app, bCells_one, bCells_plain, List.length_replicate, List.length_append, List.length_take, List.length_drop, List.take_length, and_true, true_and, and_self, decide_true, List.length_nil, List.length_cons, Nat.sub_zero, dB_mk, dB_ro, List.take_zero, bz_len, List.length_drop]
  refine br_if (fun k1 => br_if (fun k2 => ?_) (fun k2 => ⟨j, ⟨h1, h2, h3, by omega⟩, by simp [bCells_plain]⟩)) (fun k1 => ⟨j, ⟨h1, h2, h3, by omega⟩, by simp [bCells_plain]⟩)
  have hj : j < g.b.length := by omega
  have c1 := bCells_cell hj
  have c2 := bCells_at hj
  have e1 : sub (bz (g.s.drop j)) 1 (g.s.length - j) = bz (g.s.drop (j + 1)) := by
    have := bz_sub (g.s.drop j)
    rw [List.length_drop, List.drop_drop] at this
    exact this
  simp (disch := omega) only [brD, c1, bz_at, getD_drop, e1, Int.toNat_natCast]
  rw [c1] at c2
  refine ⟨c2, c2, br_intro (fun h => ⟨0, j, by omega, by omega, h3, fun e => ?_⟩) (fun h => ⟨j + 1, ⟨by omega, by omega, fun i hi => ?_⟩, by omega, rfl, by omega, rfl⟩)⟩
  · rw [e] at h; simp at h
  · rcases Nat.lt_or_ge i j with h4 | h4
    · exact h3 i h4
    · have : i = j := by omega
      subst this
      have h : ((g.b.getD i 0).toNat : Int) = ((g.s.getD i 0).toNat : Int) := by simpa using h
      exact (UInt8.toNat_inj.mp (by omega)).symm
theorem done_ok {g : Gp} {y : Nat} (h : DoneP g y) : y = mn g.s g.b ∧ okP g.s g.b = true := by
  obtain ⟨h1, h2, h3, h4⟩ := h
  have e : y = mn g.s g.b := by unfold mn; omega
  refine ⟨e, ?_⟩
  unfold okP
  rw [← e]; exact decide_eq_true h3
theorem miss_ok {g : Gp} (h : MissP g) : okP g.s g.b = false := by
  obtain ⟨j, h1, h2, h3, h4⟩ := h
  unfold okP
  exact decide_eq_false (fun h5 => h4 (h5 j (by unfold mn; omega)))
theorem Q_con (q : Rq) (b : List UInt8) (m : Int) (hr : RdOk q.r) (hc : q.r.bad = false → q.c = 0) (hl : q.r.x.length + b.length ≤ 16777216) :
    ConM Try.prog 14 [.pointer (some ⟨0, 0, none⟩), slc 1 b.length] [rdQ 2 q.r.k (q.r.x.length - q.r.k) m q.s (scB q.r.bad) q.c, bRo b, bOwn q.r.x]
      (.tuple ⟨[slc4 5 (fqL m q b).length, badV (scB (fqB m q b)) (fqC m q b) 0]⟩) 6
      [(0, rdQ 4 (fqS m q b).k ((fqS m q b).x.length - (fqS m q b).k) m (fqT m q b) (scB (fqB m q b)) (fqC m q b)), (4, bOwn (fqS m q b).x), (5, gOwn enG (fqL m q b))] := by
  refine conM_vc (E := EtF) mixed (calls_envT tF_ok) (lok_envT _ _) (M := mP) (lm_two P_piece E3_piece) (Q_vc q.r.x b q.s _ _ q.r.k _ m _ _ _ _ _) ?_
  obtain ⟨r, s, c⟩ := q
  obtain ⟨h1, h2⟩ := hr
  simp only at h1 h2 hc hl
  simp only [ofNat_eq, toNat_cast, Nat.zero_add, Nat.add_zero, Nat.mul_one, List.drop_zero, bCells_len, bCells_drop, bCells_take, bCells_app, bCells_one, bCells_plain, List.length_replicate, List.length_append, List.length_take, List.length_drop, List.take_length, and_true, true_and, and_self, decide_true, List.length_nil, List.length_cons, Nat.sub_zero, dB_mk, dB_ro, List.take_zero, bz_len]
  cases hb : r.bad with
  | true =>
    have e1 : fqL m ⟨r, s, c⟩ b = [] := by unfold fqL; rw [if_pos hb]
    have e2 : fqS m ⟨r, s, c⟩ b = r := by unfold fqS; rw [if_pos hb]
    have e3 : fqB m ⟨r, s, c⟩ b = true := by unfold fqB; rw [hb]; rfl
    have e4 : fqT m ⟨r, s, c⟩ b = s := by unfold fqT; rw [if_pos hb]
    have e5 : fqC m ⟨r, s, c⟩ b = c := by unfold fqC; rw [if_pos hb]
    rw [e1, e2, e3, e4, e5]
    exact ⟨rfl, rfl, rfl, rfl, rfl, rfl, rfl, rfl, rfl, rfl⟩
  | false =>
    refine br_nb rfl ⟨⟨r.x, m, r.k, s, b⟩, rfl, rfl, rfl, rfl, rfl, rfl, (hc hb).symm, rfl, rfl, fun side => br_side (fun y hd => ?_) (fun y hm => ?_) side⟩
    · obtain ⟨hy, hok⟩ := done_ok hd
      simp only at hy hok
      obtain ⟨hd1, hd2, _⟩ := hd
      simp only at hd1 hd2
      obtain ⟨b', hb'⟩ : ∃ b', b' = b.drop (mn s b) := ⟨_, rfl⟩
      have hbl : b'.length = b.length - y := by rw [hb', List.length_drop, ← hy]
      have e1 : fqL m ⟨r, s, c⟩ b = fdL m r b' := by unfold fqL; simp only; rw [if_neg (by simp [hb]), if_pos hok, hb']
      have e2 : fqS m ⟨r, s, c⟩ b = fdS m r b' := by unfold fqS; simp only; rw [if_neg (by simp [hb]), if_pos hok, hb']
      have e3 : fqB m ⟨r, s, c⟩ b = fdB m r b' := by unfold fqB; simp only; rw [hb, hok, hb']; rfl
      have e4 : fqT m ⟨r, s, c⟩ b = if fdB m r b' then [] else s.drop y := by unfold fqT; simp only; rw [if_neg (by simp [hb]), if_pos hok, hb', hy]
      have e5 : fqC m ⟨r, s, c⟩ b = coB (fdB m r b') := by unfold fqC; simp only; rw [if_neg (by simp [hb]), if_pos hok, hb']
      have hdr : List.drop y b = b' := by rw [hb', hy]
      have htk : List.take (b.length - y) b' = b' := List.take_of_length_le (by omega)
      rw [e1, e2, e3, e4, e5]
      have key1 := fd_key1 m r b' hb
      have key2 := fd_key2 m r b' hb
      have side2 : ∀ side2, br side2
          (∀ y2 : Se, y2.snd ≤ (fdX r b').length ∧ fdK r b' ≤ y2.snd ∧ run m (fdX r b').length (List.drop (fdK r b') (fdX r b')) = (y2.fst, y2.snd - fdK r b', false) → (fdL m r b').length = y2.fst.length ∧ scB (fdB m r b') = 0 ∧ coB (fdB m r b') = 0 ∧ (fdS m r b').k = y2.snd ∧ (fdS m r b').x.length - (fdS m r b').k = (fdX r b').length - y2.snd ∧ m = m ∧ bz (if fdB m r b' then [] else s.drop y) = bz (s.drop y) ∧ scB (fdB m r b') = 0 ∧ coB (fdB m r b') = 0 ∧ bCells (fdS m r b').x = bCells (fdX r b') ∧ gC enG (fdL m r b') = gC enG y2.fst ∧ Plain (gC enG (fdL m r b')))
          (∀ y2 : Se, (∃ k, run m (fdX r b').length (List.drop (fdK r b') (fdX r b')) = (y2.fst, k, true)) → (fdL m r b').length = y2.fst.length ∧ scB (fdB m r b') = 2 ∧ coB (fdB m r b') = 6 ∧ (fdS m r b').x.length - (fdS m r b').k = 0 ∧ m = m ∧ bz (if fdB m r b' then [] else s.drop y) = ⟨#[]⟩ ∧ scB (fdB m r b') = 2 ∧ coB (fdB m r b') = 6 ∧ bCells (fdS m r b').x = [] ∧ gC enG (fdL m r b') = gC enG y2.fst ∧ Plain (gC enG (fdL m r b'))) := fun side2 => br_side (fun y2 hy2 => by
            obtain ⟨a1, a2, a3, a4, a5, a6, a7, a8, a9, a10, a11⟩ := key1 y2 hy2
            have hf : fdB m r b' = false := by
              cases h : fdB m r b' with
              | false => rfl
              | true => rw [h] at a2; exact absurd a2 (by decide)
            exact ⟨a1, a2, a3, a4, a5, rfl, by rw [hf]; rfl, a7, a8, a9, a10, a11⟩) (fun y2 hy2 => by
            obtain ⟨a1, a2, a3, a4, a5, a6, a7, a8, a9, a10⟩ := key2 y2 hy2
            have hf : fdB m r b' = true := by
              cases h : fdB m r b' with
              | true => rfl
              | false => rw [h] at a2; exact absurd a2 (by decide)
            exact ⟨a1, a2, a3, a4, rfl, by rw [hf]; rfl, a6, a7, a8, a9, a10⟩) side2
      simp only [hdr, htk]
      refine br_dec (by omega) (br_b rfl (br_dec (by omega) (br_if (fun h0 => br_dec (by omega) ?_) (fun h0 => ?_))))
      · have hk : keeps r b' = false := by unfold keeps; exact decide_eq_false (by omega)
        have ex : fdX r b' = r.x.drop r.k ++ b' := by unfold fdX; rw [if_neg (by simp [hk])]
        have ek : fdK r b' = 0 := by unfold fdK; rw [if_neg (by simp [hk])]
        have elen : (fdX r b').length = r.x.length - r.k + b'.length := by rw [ex, List.length_append, List.length_drop]
        refine ⟨⟨fdX r b', m, fdK r b', s.drop y⟩, ⟨by simp only; omega, by simp only; omega⟩, ek, by simp only; omega, rfl, rfl, ?_, ?_⟩
        · simp only; rw [ex, List.take_of_length_le (by rw [List.length_drop]; omega)]
        · exact side2
      · have hk : keeps r b' = true := by unfold keeps; exact decide_eq_true (by omega)
        have ex : fdX r b' = r.x := by unfold fdX; rw [if_pos hk]
        have ek : fdK r b' = r.k := by unfold fdK; rw [if_pos hk]
        exact ⟨⟨fdX r b', m, fdK r b', s.drop y⟩, ⟨by simp only; rw [ex]; omega, by simp only; rw [ex, ek]; exact h1⟩, ek, by simp only; rw [ex, ek], rfl, rfl, by simp only; rw [ex], side2⟩
    · have hok := miss_ok hm
      simp only at hok
      have e1 : fqL m ⟨r, s, c⟩ b = [] := by unfold fqL; simp only; rw [if_neg (by simp [hb]), if_neg (by simp [hok])]
      have e2 : fqS m ⟨r, s, c⟩ b = ⟨[], 0, true⟩ := by unfold fqS; simp only; rw [if_neg (by simp [hb]), if_neg (by simp [hok])]
      have e3 : fqB m ⟨r, s, c⟩ b = true := by unfold fqB; simp only; rw [hok]; simp
      have e4 : fqT m ⟨r, s, c⟩ b = [] := by unfold fqT; simp only; rw [if_neg (by simp [hb]), if_neg (by simp [hok])]
      have e5 : fqC m ⟨r, s, c⟩ b = 1 := by unfold fqC; simp only; rw [if_neg (by simp [hb]), if_neg (by simp [hok])]
      rw [e1, e2, e3, e4, e5]
      exact ⟨rfl, rfl, rfl, rfl, rfl, rfl, rfl, rfl, rfl, rfl⟩
end Go.Proofs.Ytkeiogmapogpnaa.fe
