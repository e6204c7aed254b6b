/- The document's reader of frames: its Feed. -/
import Derived.Test.YtkeiogmapogpnaaSz9
import Derived.Test.YtkeiogmapogpnaaRows
import Derived.Test.YtkeiogmapogpnaaLfg
set_option linter.unusedSimpArgs false
set_option linter.unusedVariables false
namespace Go.Proofs.Ytkeiogmapogpnaa.fe
open Go Go.Ev Go.Sy Go.RowKit Go.Proofs.Ytkeiogmapogpnaa.s9 Go.Proofs.Ytkeiogmapogpnaa.fd Go.Proofs.Ytkeiogmapogpnaa.gl
def rdW (q k n : Nat) (m : Int) (st : List UInt8) (sc co : Int) : Row := ⟨[.slice (some ⟨q, k, none⟩) n 1, .string (bz st), .int .i64 m, .int .i64 sc, .int .i64 co, .int .i64 0], false, .cells false⟩
def rdWb (m : Int) (st : List UInt8) (co : Int) : Row := ⟨[.slice none 0 0, .string (bz st), .int .i64 m, .int .i64 2, .int .i64 co, .int .i64 0], false, .cells false⟩
def pW : List Nat := [0, 0, 1, 1, 1]
def pV : List Nat := [0, 0, 1, 1, 1, 1, 1]
structure Gw where
  y : List UInt8
  m : Int
  s : List UInt8
def slW : List (Nat × Value) := [(0, .pointer (some ⟨0, 0, none⟩)), (5, .pointer (some ⟨3, 0, none⟩))]
noncomputable def rlW (g : Gw) (j : Nat) : List (Nat × Row) := [(0, rdW 4 j (g.y.length - j) g.m (g.s.drop j) 0 0), (3, badR 0 0 0), (4, bOwn g.y)]
def DoneW (g : Gw) (j : Nat) : Prop := j ≤ g.s.length ∧ j ≤ g.y.length ∧ agr g.s g.y j ∧ (g.s.length ≤ j ∨ g.y.length ≤ j)
def MissW (g : Gw) (j : Nat) : Prop := j < g.s.length ∧ j < g.y.length ∧ agr g.s g.y j ∧ g.s.getD j 0 ≠ g.y.getD j 0
noncomputable def wsW (g : Gw) : List (Gate Nat) := [⟨.exit 0, fun j => DoneW g j, fun _ => slW, fun j => rlW g j, 5⟩,
  ⟨.ret, fun j => MissW g j, fun _ => [(4, .slice none 0 0), (5, .pointer (some ⟨3, 0, none⟩))], fun j => [(0, rdWb g.m (g.s.drop j) 1), (3, badR 2 1 0)], 5⟩]
noncomputable def specW : Sy.Spec := specOf 3 5 192 (fun _ : Gw => True) (fun _ => slW) (fun g => rlW g 0) wsW
structure Gv where
  x : List UInt8
  m : Int
  k : Nat
  st : List UInt8
noncomputable def rlV (st x : List UInt8) (m : Int) (l : List Bf) (k : Nat) : List (Nat × Row) := [(0, rdW 4 k (x.length - k) m st 0 0), (3, badR 0 0 0), (4, bOwn x), (5, gOwn enG l)]
def runS (st : List UInt8) (m : Int) (x : List UInt8) (k : Nat) : List Bf × Nat × Bool := if st.length = 0 then run m x.length (x.drop k) else ([], 0, false)
noncomputable def wsV (st x : List UInt8) (m : Int) (k0 : Nat) : List (Gate Se) :=
  [⟨.exit 2, fun s => s.2 ≤ x.length ∧ k0 ≤ s.2 ∧ runS st m x k0 = (s.1, s.2 - k0, false), fun s => [(5, .pointer (some ⟨3, 0, none⟩)), (6, slc4 5 s.1.length)], fun s => rlV st x m s.1 s.2, 6⟩,
   ⟨.ret, fun s => ∃ k, runS st m x k0 = (s.1, k, true), fun s => [(4, slc4 5 s.1.length), (5, .pointer (some ⟨3, 0, none⟩))], fun s => [(0, rdWb m st 6), (3, badR 2 6 0), (5, gOwn enG s.1)], 6⟩]
noncomputable def specV : Sy.Spec := specOf 3 6 192 (fun g : Gv => g.x.length ≤ 16777216 ∧ g.k ≤ g.x.length) (fun _ => slE []) (fun g => rlV g.st g.x g.m [] g.k) (fun g => wsV g.st g.x g.m g.k)
noncomputable def mW := mOf [(23, pW, specW), (23, pV, specV)]
def InvV (g : Gv) (s : Se) : Prop := s.2 ≤ g.x.length ∧ g.k ≤ s.2 ∧ s.1.length ≤ s.2 ∧ runS g.st g.m g.x g.k = (s.1 ++ (runS g.st g.m g.x s.2).1, (s.2 - g.k) + (runS g.st g.m g.x s.2).2.1, (runS g.st g.m g.x s.2).2.2)
def dqY (q : Rq) (b : List UInt8) : List UInt8 := q.r.x.drop q.r.k ++ b
def dqJ (q : Rq) (b : List UInt8) : Nat := mn q.s (dqY q b)
def dqO (q : Rq) (b : List UInt8) : Bool := okP q.s (dqY q b)
def dqR (m : Int) (q : Rq) (b : List UInt8) : List Bf × Nat × Bool := runS (q.s.drop (dqJ q b)) m (dqY q b) (dqJ q b)
def dqL (m : Int) (q : Rq) (b : List UInt8) : List Bf := if q.r.bad then [] else if dqO q b then (dqR m q b).1 else []
def dqB (m : Int) (q : Rq) (b : List UInt8) : Bool := q.r.bad || !dqO q b || (dqR m q b).2.2
def dqS (m : Int) (q : Rq) (b : List UInt8) : Rd := if q.r.bad then q.r else if dqO q b then (if (dqR m q b).2.2 then ⟨[], 0, true⟩ else ⟨dqY q b, dqJ q b + (dqR m q b).2.1, false⟩) else ⟨[], 0, true⟩
open Classical in
noncomputable def dqM (m : Int) (q : Rq) (b : List UInt8) : Nat := if h : ∃ j, MissW ⟨dqY q b, m, q.s⟩ j then Classical.choose h else 0
noncomputable def dqT (m : Int) (q : Rq) (b : List UInt8) : List UInt8 := if q.r.bad then q.s else if dqO q b then q.s.drop (dqJ q b) else q.s.drop (dqM m q b)
def dqC (m : Int) (q : Rq) (b : List UInt8) : Int := if q.r.bad then q.c else if dqO q b then coB (dqR m q b).2.2 else 1
theorem W_round (g : Gw) (j : Nat) (Inv : Nat → Prop) (q : Nat → Nat) : mev E0 noM 60 23 (0 :: pW) false (codeOf Try.prog 23 (0 :: pW)) ⟨mkOv slW, 192, []⟩ none ⟨mkR (rlW g j), 5⟩ (roundK 3 5 192 Inv q (fun _ => slW) (fun j => rlW g j) (wsW g) j) =
  (br (decide (Int.ofNat (List.length (Array.toList (ByteArray.data (bz (List.drop j g.3))))) > (0 : Int))) (br (decide (Int.ofNat (List.length g.1 - j) > (0 : Int))) (br
  (decide ((0 : Int) <= (0 : Int) /\ (0 : Int) < (↑(List.length g.1 - j) : Int))) ((Eq (α := Option Value) ((bCells g.1)[j + 0]?) (some (Value.int IntKind.u8 (cellI (bCells
  g.1) (j + 0))))) /\ (br (decide ((0 : Int) <= (0 : Int) /\ (0 : Int) < (↑(List.length (Array.toList (ByteArray.data (bz (List.drop j g.3))))) : Int))) ((Value.slice (some
  (Addr.mk 4 j none)) (List.length g.1 - j) 1 = Value.slice (some (Addr.mk 4 j none)) (List.length g.1 - j) 1) /\ ((Eq (α := Option Value) ((bCells g.1)[j + 0]?) (some
  (Value.int IntKind.u8 (cellI (bCells g.1) (j + 0))))) /\ ((Value.int IntKind.u8 (cellI (bCells g.1) (j + 0)) = Value.int IntKind.u8 (cellI (bCells g.1) (j + 0))) /\
  ((Value.string (bz (List.drop j g.3)) = Value.string (bz (List.drop j g.3))) /\ (br (cellI (bCells g.1) (j + 0) != byteAt (bz (List.drop j g.3)) 0) ((Value.agg (Array.mk
  [Value.int IntKind.i64 (2 : Int), Value.int IntKind.i64 (1 : Int), Value.int IntKind.i64 (0 : Int)]) = Value.agg (Array.mk [Value.int IntKind.i64 (2 : Int), Value.int
  IntKind.i64 (1 : Int), Value.int IntKind.i64 (0 : Int)])) /\ (∃ y : Nat, ((MissW g y) /\ ((0 = 0) /\ ((bz (List.drop y g.3) = bz (List.drop j g.3)) /\ ((g.2 = g.2) /\ (((2
  : Int) = (2 : Int)) /\ (((1 : Int) = (1 : Int)) /\ (((0 : Int) = (0 : Int)) /\ (((2 : Int) = (2 : Int)) /\ (((1 : Int) = (1 : Int)) /\ (((0 : Int) = (0 : Int)) /\
  True)))))))))))) (br (decide ((0 : Int) <= (1 : Int) /\ (1 : Int) <= (↑(List.length g.1 - j) : Int) /\ (↑(List.length g.1 - j) : Int) <= (↑(List.length g.1 - j) : Int)))
  (br (decide ((0 : Int) <= (1 : Int) /\ (1 : Int) <= (↑(List.length (Array.toList (ByteArray.data (bz (List.drop j g.3))))) : Int) /\ (↑(List.length (Array.toList
  (ByteArray.data (bz (List.drop j g.3))))) : Int) <= (↑(List.length (Array.toList (ByteArray.data (bz (List.drop j g.3))))) : Int))) ((Value.slice (some (Addr.mk 4 j none))
  (List.length g.1 - j) 1 = Value.slice (some (Addr.mk 4 j none)) (List.length g.1 - j) 1) /\ (br (decide ((0 : Int) <= (1 : Int) /\ (1 : Int) <= (↑(List.length g.1 - j) :
  Int) /\ (↑(List.length g.1 - j) : Int) <= (↑(List.length g.1 - j) : Int))) ((Value.slice (some (Addr.mk 4 (j + 1) none)) (Int.toNat (↑(List.length g.1 - j) : Int) - 1) 1 =
  Value.slice (some (Addr.mk 4 (j + 1) none)) (Int.toNat (↑(List.length g.1 - j) : Int) - 1) 1) /\ ((Value.string (bz (List.drop j g.3)) = Value.string (bz (List.drop j
  g.3))) /\ (br (decide ((0 : Int) <= (1 : Int) /\ (1 : Int) <= (↑(List.length (Array.toList (ByteArray.data (bz (List.drop j g.3))))) : Int) /\ (↑(List.length (Array.toList
  (ByteArray.data (bz (List.drop j g.3))))) : Int) <= (↑(List.length (Array.toList (ByteArray.data (bz (List.drop j g.3))))) : Int))) ((Value.string (sub (bz (List.drop j
  g.3)) 1 (Int.toNat (↑(List.length (Array.toList (ByteArray.data (bz (List.drop j g.3))))) : Int))) = Value.string (sub (bz (List.drop j g.3)) 1 (Int.toNat (↑(List.length
  (Array.toList (ByteArray.data (bz (List.drop j g.3))))) : Int)))) /\ (br (decide ((0 : Int) <= (1 : Int) /\ (1 : Int) <= (↑(List.length (Array.toList (ByteArray.data (bz
  (List.drop j g.3))))) : Int) /\ (↑(List.length (Array.toList (ByteArray.data (bz (List.drop j g.3))))) : Int) <= (↑(List.length (Array.toList (ByteArray.data (bz
  (List.drop j g.3))))) : Int))) ((Value.string (sub (bz (List.drop j g.3)) 1 (Int.toNat (↑(List.length (Array.toList (ByteArray.data (bz (List.drop j g.3))))) : Int))) =
  Value.string (sub (bz (List.drop j g.3)) 1 (Int.toNat (↑(List.length (Array.toList (ByteArray.data (bz (List.drop j g.3))))) : Int)))) /\ (∃ j2 : Nat, ((Inv j2) /\ ((q j2
  < q j) /\ ((0 = 0) /\ ((0 = 0) /\ ((j2 = j + 1) /\ ((List.length g.1 - j2 = Int.toNat (↑(List.length g.1 - j) : Int) - 1) /\ ((bz (List.drop j2 g.3) = sub (bz (List.drop j
  g.3)) 1 (Int.toNat (↑(List.length (Array.toList (ByteArray.data (bz (List.drop j g.3))))) : Int))) /\ ((g.2 = g.2) /\ (((0 : Int) = (0 : Int)) /\ (((0 : Int) = (0 : Int))
  /\ (((0 : Int) = (0 : Int)) /\ (((0 : Int) = (0 : Int)) /\ (((0 : Int) = (0 : Int)) /\ (((0 : Int) = (0 : Int)) /\ ((Eq (α := List Value) (bCells g.1) (bCells g.1)) /\
  ((Plain (bCells g.1)) /\ True)))))))))))))))))) False)) False))) False)) False) False)))))) False)) False) (∃ y : Nat, ((DoneW g y) /\ ((0 = 0) /\ ((0 = 0) /\ ((y = j) /\
  ((List.length g.1 - y = List.length g.1 - j) /\ ((bz (List.drop y g.3) = bz (List.drop j g.3)) /\ ((g.2 = g.2) /\ (((0 : Int) = (0 : Int)) /\ (((0 : Int) = (0 : Int)) /\
  (((0 : Int) = (0 : Int)) /\ (((0 : Int) = (0 : Int)) /\ (((0 : Int) = (0 : Int)) /\ (((0 : Int) = (0 : Int)) /\ ((Eq (α := List Value) (bCells g.1) (bCells g.1)) /\
  ((Plain (bCells g.1)) /\ True))))))))))))))))) (∃ y : Nat, ((DoneW g y) /\ ((0 = 0) /\ ((0 = 0) /\ ((y = j) /\ ((List.length g.1 - y = List.length g.1 - j) /\ ((bz
  (List.drop y g.3) = bz (List.drop j g.3)) /\ ((g.2 = g.2) /\ (((0 : Int) = (0 : Int)) /\ (((0 : Int) = (0 : Int)) /\ (((0 : Int) = (0 : Int)) /\ (((0 : Int) = (0 : Int))
  /\ (((0 : Int) = (0 : Int)) /\ (((0 : Int) = (0 : Int)) /\ ((Eq (α := List Value) (bCells g.1) (bCells g.1)) /\ ((Plain (bCells g.1)) /\ True))))))))))))))))) := by kernel_rfl
theorem V_round (st x : List UInt8) (m : Int) (l : List Bf) (k k0 : Nat) (Inv : Se → Prop) (q : Se → Nat) : mev E0 noM 60 23 (0 :: pV) false (codeOf Try.prog 23 (0 :: pV)) ⟨mkOv (slE l), 192, []⟩ none ⟨mkR (rlV st x m l k), 6⟩ (roundK 3 6 192 Inv q (fun s => slE s.1) (fun s => rlV st x m s.1 s.2) (wsV st x m k0) (l, k)) =
  (br (Int.ofNat (List.length (Array.toList (ByteArray.data (bz st)))) == (0 : Int)) (br (decide (Int.ofNat (List.length x - k) ≥ (9 : Int))) (br (decide ((0 : Int) <= (0 :
  Int) /\ (0 : Int) < (↑(List.length x - k) : Int))) ((Eq (α := Option Value) ((bCells x)[k + 0]?) (some (Value.int IntKind.u8 (cellI (bCells x) (k + 0))))) /\ (br (decide
  ((0 : Int) <= (1 : Int) /\ (1 : Int) < (↑(List.length x - k) : Int))) ((Eq (α := Option Value) ((bCells x)[k + 1]?) (some (Value.int IntKind.u8 (cellI (bCells x) (k +
  1))))) /\ (br (decide ((0 : Int) <= (2 : Int) /\ (2 : Int) < (↑(List.length x - k) : Int))) ((Eq (α := Option Value) ((bCells x)[k + 2]?) (some (Value.int IntKind.u8
  (cellI (bCells x) (k + 2))))) /\ ((Eq (α := Option Value) ((bCells x)[k + 0]?) (some (Value.int IntKind.u8 (cellI (bCells x) (k + 0))))) /\ ((Value.int IntKind.u8 (cellI
  (bCells x) (k + 0)) = Value.int IntKind.u8 (cellI (bCells x) (k + 0))) /\ ((Value.int IntKind.i64 (IntKind.wrap IntKind.i64 (cellI (bCells x) (k + 0))) = Value.int
  IntKind.i64 (IntKind.wrap IntKind.i64 (cellI (bCells x) (k + 0)))) /\ ((Eq (α := Option Value) ((bCells x)[k + 1]?) (some (Value.int IntKind.u8 (cellI (bCells x) (k +
  1))))) /\ ((Value.int IntKind.u8 (cellI (bCells x) (k + 1)) = Value.int IntKind.u8 (cellI (bCells x) (k + 1))) /\ ((Value.int IntKind.i64 (IntKind.wrap IntKind.i64 (cellI
  (bCells x) (k + 1))) = Value.int IntKind.i64 (IntKind.wrap IntKind.i64 (cellI (bCells x) (k + 1)))) /\ ((Eq (α := Option Value) ((bCells x)[k + 2]?) (some (Value.int
  IntKind.u8 (cellI (bCells x) (k + 2))))) /\ ((Value.int IntKind.u8 (cellI (bCells x) (k + 2)) = Value.int IntKind.u8 (cellI (bCells x) (k + 2))) /\ ((Value.int IntKind.i64
  (IntKind.wrap IntKind.i64 (cellI (bCells x) (k + 2))) = Value.int IntKind.i64 (IntKind.wrap IntKind.i64 (cellI (bCells x) (k + 2)))) /\ (br (decide (ior IntKind.i64 (ior
  IntKind.i64 (ishl IntKind.i64 (IntKind.wrap IntKind.i64 (cellI (bCells x) (k + 0))) (16 : Int)) (ishl IntKind.i64 (IntKind.wrap IntKind.i64 (cellI (bCells x) (k + 1))) (8
  : Int))) (IntKind.wrap IntKind.i64 (cellI (bCells x) (k + 2))) > m)) ((Value.agg (Array.mk [Value.int IntKind.i64 (2 : Int), Value.int IntKind.i64 (6 : Int), Value.int
  IntKind.i64 (0 : Int)]) = Value.agg (Array.mk [Value.int IntKind.i64 (2 : Int), Value.int IntKind.i64 (6 : Int), Value.int IntKind.i64 (0 : Int)])) /\ (∃ y : Se, ((∃ k,
  runS st m x k0 = (Prod.fst y, k, true)) /\ ((0 = 0) /\ ((List.length y.1 = List.length l) /\ ((0 = 0) /\ ((bz st = bz st) /\ ((m = m) /\ (((2 : Int) = (2 : Int)) /\ (((6 :
  Int) = (6 : Int)) /\ (((0 : Int) = (0 : Int)) /\ (((2 : Int) = (2 : Int)) /\ (((6 : Int) = (6 : Int)) /\ (((0 : Int) = (0 : Int)) /\ ((Eq (α := List Value) (gC enG y.1)
  (gC enG l)) /\ ((Plain (gC enG y.1)) /\ True)))))))))))))))) (br (decide (Int.ofNat (List.length x - k) < IntKind.wrap IntKind.i64 ((9 : Int) + ior IntKind.i64 (ior
  IntKind.i64 (ishl IntKind.i64 (IntKind.wrap IntKind.i64 (cellI (bCells x) (k + 0))) (16 : Int)) (ishl IntKind.i64 (IntKind.wrap IntKind.i64 (cellI (bCells x) (k + 1))) (8
  : Int))) (IntKind.wrap IntKind.i64 (cellI (bCells x) (k + 2)))))) (∃ y : Se, (((y.2 <= List.length x /\ (k0 <= y.2 /\ runS st m x k0 = (y.1, y.2 - k0, false)))) /\ ((0 =
  0) /\ ((0 = 0) /\ ((List.length y.1 = List.length l) /\ ((y.2 = k) /\ ((List.length x - y.2 = List.length x - k) /\ ((bz st = bz st) /\ ((m = m) /\ (((0 : Int) = (0 :
  Int)) /\ (((0 : Int) = (0 : Int)) /\ (((0 : Int) = (0 : Int)) /\ (((0 : Int) = (0 : Int)) /\ (((0 : Int) = (0 : Int)) /\ (((0 : Int) = (0 : Int)) /\ ((Eq (α := List Value)
  (bCells x) (bCells x)) /\ ((Plain (bCells x)) /\ ((Eq (α := List Value) (gC enG y.1) (gC enG l)) /\ ((Plain (gC enG y.1)) /\ True))))))))))))))))))) (br (decide ((0 : Int)
  <= (5 : Int) /\ (5 : Int) < (↑(List.length x - k) : Int))) ((Eq (α := Option Value) ((bCells x)[k + 5]?) (some (Value.int IntKind.u8 (cellI (bCells x) (k + 5))))) /\ (br
  (decide ((0 : Int) <= (6 : Int) /\ (6 : Int) < (↑(List.length x - k) : Int))) ((Eq (α := Option Value) ((bCells x)[k + 6]?) (some (Value.int IntKind.u8 (cellI (bCells x)
  (k + 6))))) /\ (br (decide ((0 : Int) <= (7 : Int) /\ (7 : Int) < (↑(List.length x - k) : Int))) ((Eq (α := Option Value) ((bCells x)[k + 7]?) (some (Value.int IntKind.u8
  (cellI (bCells x) (k + 7))))) /\ (br (decide ((0 : Int) <= (8 : Int) /\ (8 : Int) < (↑(List.length x - k) : Int))) ((Eq (α := Option Value) ((bCells x)[k + 8]?) (some
  (Value.int IntKind.u8 (cellI (bCells x) (k + 8))))) /\ ((Eq (α := Option Value) ((bCells x)[k + 5]?) (some (Value.int IntKind.u8 (cellI (bCells x) (k + 5))))) /\
  ((Value.int IntKind.u8 (cellI (bCells x) (k + 5)) = Value.int IntKind.u8 (cellI (bCells x) (k + 5))) /\ ((Value.int IntKind.i64 (IntKind.wrap IntKind.i64 (iand IntKind.u8
  (cellI (bCells x) (k + 5)) (127 : Int))) = Value.int IntKind.i64 (IntKind.wrap IntKind.i64 (iand IntKind.u8 (cellI (bCells x) (k + 5)) (127 : Int)))) /\ ((Eq (α := Option
  Value) ((bCells x)[k + 6]?) (some (Value.int IntKind.u8 (cellI (bCells x) (k + 6))))) /\ ((Value.int IntKind.u8 (cellI (bCells x) (k + 6)) = Value.int IntKind.u8 (cellI
  (bCells x) (k + 6))) /\ ((Value.int IntKind.i64 (IntKind.wrap IntKind.i64 (cellI (bCells x) (k + 6))) = Value.int IntKind.i64 (IntKind.wrap IntKind.i64 (cellI (bCells x)
  (k + 6)))) /\ ((Eq (α := Option Value) ((bCells x)[k + 7]?) (some (Value.int IntKind.u8 (cellI (bCells x) (k + 7))))) /\ ((Value.int IntKind.u8 (cellI (bCells x) (k + 7))
  = Value.int IntKind.u8 (cellI (bCells x) (k + 7))) /\ ((Value.int IntKind.i64 (IntKind.wrap IntKind.i64 (cellI (bCells x) (k + 7))) = Value.int IntKind.i64 (IntKind.wrap
  IntKind.i64 (cellI (bCells x) (k + 7)))) /\ ((Eq (α := Option Value) ((bCells x)[k + 8]?) (some (Value.int IntKind.u8 (cellI (bCells x) (k + 8))))) /\ ((Value.int
  IntKind.u8 (cellI (bCells x) (k + 8)) = Value.int IntKind.u8 (cellI (bCells x) (k + 8))) /\ ((Value.int IntKind.i64 (IntKind.wrap IntKind.i64 (cellI (bCells x) (k + 8))) =
  Value.int IntKind.i64 (IntKind.wrap IntKind.i64 (cellI (bCells x) (k + 8)))) /\ (br (decide ((0 : Int) <= (3 : Int) /\ (3 : Int) < (↑(List.length x - k) : Int))) ((Eq (α
  := Option Value) ((bCells x)[k + 3]?) (some (Value.int IntKind.u8 (cellI (bCells x) (k + 3))))) /\ (br (decide ((0 : Int) <= (4 : Int) /\ (4 : Int) < (↑(List.length x - k)
  : Int))) ((Eq (α := Option Value) ((bCells x)[k + 4]?) (some (Value.int IntKind.u8 (cellI (bCells x) (k + 4))))) /\ (br (decide ((0 : Int) <= (9 : Int) /\ (9 : Int) <=
  IntKind.wrap IntKind.i64 ((9 : Int) + ior IntKind.i64 (ior IntKind.i64 (ishl IntKind.i64 (IntKind.wrap IntKind.i64 (cellI (bCells x) (k + 0))) (16 : Int)) (ishl
  IntKind.i64 (IntKind.wrap IntKind.i64 (cellI (bCells x) (k + 1))) (8 : Int))) (IntKind.wrap IntKind.i64 (cellI (bCells x) (k + 2)))) /\ IntKind.wrap IntKind.i64 ((9 : Int)
  + ior IntKind.i64 (ior IntKind.i64 (ishl IntKind.i64 (IntKind.wrap IntKind.i64 (cellI (bCells x) (k + 0))) (16 : Int)) (ishl IntKind.i64 (IntKind.wrap IntKind.i64 (cellI
  (bCells x) (k + 1))) (8 : Int))) (IntKind.wrap IntKind.i64 (cellI (bCells x) (k + 2)))) <= (↑(List.length x - k) : Int))) (br (decide (k + 9 + (Int.toNat (IntKind.wrap
  IntKind.i64 ((9 : Int) + ior IntKind.i64 (ior IntKind.i64 (ishl IntKind.i64 (IntKind.wrap IntKind.i64 (cellI (bCells x) (k + 0))) (16 : Int)) (ishl IntKind.i64
  (IntKind.wrap IntKind.i64 (cellI (bCells x) (k + 1))) (8 : Int))) (IntKind.wrap IntKind.i64 (cellI (bCells x) (k + 2))))) - 9) * 1 <= List.length (bCells x))) (br (allOne
  (List.take ((Int.toNat (IntKind.wrap IntKind.i64 ((9 : Int) + ior IntKind.i64 (ior IntKind.i64 (ishl IntKind.i64 (IntKind.wrap IntKind.i64 (cellI (bCells x) (k + 0))) (16
  : Int)) (ishl IntKind.i64 (IntKind.wrap IntKind.i64 (cellI (bCells x) (k + 1))) (8 : Int))) (IntKind.wrap IntKind.i64 (cellI (bCells x) (k + 2))))) - 9) * 1) (List.drop (k
  + 9) (bCells x)))) (br (decide (0 + (Int.toNat (IntKind.wrap IntKind.i64 ((9 : Int) + ior IntKind.i64 (ior IntKind.i64 (ishl IntKind.i64 (IntKind.wrap IntKind.i64 (cellI
  (bCells x) (k + 0))) (16 : Int)) (ishl IntKind.i64 (IntKind.wrap IntKind.i64 (cellI (bCells x) (k + 1))) (8 : Int))) (IntKind.wrap IntKind.i64 (cellI (bCells x) (k +
  2))))) - 9) <= 16777216)) (br (decide (0 + (0 + (Int.toNat (IntKind.wrap IntKind.i64 ((9 : Int) + ior IntKind.i64 (ior IntKind.i64 (ishl IntKind.i64 (IntKind.wrap
  IntKind.i64 (cellI (bCells x) (k + 0))) (16 : Int)) (ishl IntKind.i64 (IntKind.wrap IntKind.i64 (cellI (bCells x) (k + 1))) (8 : Int))) (IntKind.wrap IntKind.i64 (cellI
  (bCells x) (k + 2))))) - 9)) * 1 <= List.length ([] ++ List.take ((Int.toNat (IntKind.wrap IntKind.i64 ((9 : Int) + ior IntKind.i64 (ior IntKind.i64 (ishl IntKind.i64
  (IntKind.wrap IntKind.i64 (cellI (bCells x) (k + 0))) (16 : Int)) (ishl IntKind.i64 (IntKind.wrap IntKind.i64 (cellI (bCells x) (k + 1))) (8 : Int))) (IntKind.wrap
  IntKind.i64 (cellI (bCells x) (k + 2))))) - 9) * 1) (List.drop (k + 9) (bCells x))))) ((gAll (shown ([] ++ List.take ((Int.toNat (IntKind.wrap IntKind.i64 ((9 : Int) + ior
  IntKind.i64 (ior IntKind.i64 (ishl IntKind.i64 (IntKind.wrap IntKind.i64 (cellI (bCells x) (k + 0))) (16 : Int)) (ishl IntKind.i64 (IntKind.wrap IntKind.i64 (cellI (bCells
  x) (k + 1))) (8 : Int))) (IntKind.wrap IntKind.i64 (cellI (bCells x) (k + 2))))) - 9) * 1) (List.drop (k + 9) (bCells x))) 0 (0 + (Int.toNat (IntKind.wrap IntKind.i64 ((9
  : Int) + ior IntKind.i64 (ior IntKind.i64 (ishl IntKind.i64 (IntKind.wrap IntKind.i64 (cellI (bCells x) (k + 0))) (16 : Int)) (ishl IntKind.i64 (IntKind.wrap IntKind.i64
  (cellI (bCells x) (k + 1))) (8 : Int))) (IntKind.wrap IntKind.i64 (cellI (bCells x) (k + 2))))) - 9)) 1) = true) /\ (br (decide (List.length l + 1 <= 16777216)) (br
  (decide (0 + List.length l * 4 <= List.length (gC enG l))) ((Eq (α := Option Value) ((bCells x)[k + 3]?) (some (Value.int IntKind.u8 (cellI (bCells x) (k + 3))))) /\
  ((Value.int IntKind.u8 (cellI (bCells x) (k + 3)) = Value.int IntKind.u8 (cellI (bCells x) (k + 3))) /\ ((Eq (α := Option Value) ((bCells x)[k + 3]?) (some (Value.int
  IntKind.u8 (cellI (bCells x) (k + 3))))) /\ ((Value.int IntKind.u8 (cellI (bCells x) (k + 3)) = Value.int IntKind.u8 (cellI (bCells x) (k + 3))) /\ ((Value.int IntKind.i64
  (IntKind.wrap IntKind.i64 (cellI (bCells x) (k + 3))) = Value.int IntKind.i64 (IntKind.wrap IntKind.i64 (cellI (bCells x) (k + 3)))) /\ ((Value.int IntKind.i64
  (IntKind.wrap IntKind.i64 (cellI (bCells x) (k + 3))) = Value.int IntKind.i64 (IntKind.wrap IntKind.i64 (cellI (bCells x) (k + 3)))) /\ ((Eq (α := Option Value) ((bCells
  x)[k + 4]?) (some (Value.int IntKind.u8 (cellI (bCells x) (k + 4))))) /\ ((Value.int IntKind.u8 (cellI (bCells x) (k + 4)) = Value.int IntKind.u8 (cellI (bCells x) (k +
  4))) /\ ((Eq (α := Option Value) ((bCells x)[k + 4]?) (some (Value.int IntKind.u8 (cellI (bCells x) (k + 4))))) /\ ((Value.int IntKind.u8 (cellI (bCells x) (k + 4)) =
  Value.int IntKind.u8 (cellI (bCells x) (k + 4))) /\ ((Value.int IntKind.i64 (IntKind.wrap IntKind.i64 (cellI (bCells x) (k + 4))) = Value.int IntKind.i64 (IntKind.wrap
  IntKind.i64 (cellI (bCells x) (k + 4)))) /\ ((Value.int IntKind.i64 (IntKind.wrap IntKind.i64 (cellI (bCells x) (k + 4))) = Value.int IntKind.i64 (IntKind.wrap IntKind.i64
  (cellI (bCells x) (k + 4)))) /\ (br (decide ((0 : Int) <= (9 : Int) /\ (9 : Int) <= IntKind.wrap IntKind.i64 ((9 : Int) + ior IntKind.i64 (ior IntKind.i64 (ishl
  IntKind.i64 (IntKind.wrap IntKind.i64 (cellI (bCells x) (k + 0))) (16 : Int)) (ishl IntKind.i64 (IntKind.wrap IntKind.i64 (cellI (bCells x) (k + 1))) (8 : Int)))
  (IntKind.wrap IntKind.i64 (cellI (bCells x) (k + 2)))) /\ IntKind.wrap IntKind.i64 ((9 : Int) + ior IntKind.i64 (ior IntKind.i64 (ishl IntKind.i64 (IntKind.wrap
  IntKind.i64 (cellI (bCells x) (k + 0))) (16 : Int)) (ishl IntKind.i64 (IntKind.wrap IntKind.i64 (cellI (bCells x) (k + 1))) (8 : Int))) (IntKind.wrap IntKind.i64 (cellI
  (bCells x) (k + 2)))) <= (↑(List.length x - k) : Int))) ((Value.slice (some (Addr.mk 4 (k + 9) none)) (Int.toNat (IntKind.wrap IntKind.i64 ((9 : Int) + ior IntKind.i64
  (ior IntKind.i64 (ishl IntKind.i64 (IntKind.wrap IntKind.i64 (cellI (bCells x) (k + 0))) (16 : Int)) (ishl IntKind.i64 (IntKind.wrap IntKind.i64 (cellI (bCells x) (k +
  1))) (8 : Int))) (IntKind.wrap IntKind.i64 (cellI (bCells x) (k + 2))))) - 9) 1 = Value.slice (some (Addr.mk 4 (k + 9) none)) (Int.toNat (IntKind.wrap IntKind.i64 ((9 :
  Int) + ior IntKind.i64 (ior IntKind.i64 (ishl IntKind.i64 (IntKind.wrap IntKind.i64 (cellI (bCells x) (k + 0))) (16 : Int)) (ishl IntKind.i64 (IntKind.wrap IntKind.i64
  (cellI (bCells x) (k + 1))) (8 : Int))) (IntKind.wrap IntKind.i64 (cellI (bCells x) (k + 2))))) - 9) 1) /\ (br (decide ((0 : Int) <= IntKind.wrap IntKind.i64 ((9 : Int) +
  ior IntKind.i64 (ior IntKind.i64 (ishl IntKind.i64 (IntKind.wrap IntKind.i64 (cellI (bCells x) (k + 0))) (16 : Int)) (ishl IntKind.i64 (IntKind.wrap IntKind.i64 (cellI
  (bCells x) (k + 1))) (8 : Int))) (IntKind.wrap IntKind.i64 (cellI (bCells x) (k + 2)))) /\ IntKind.wrap IntKind.i64 ((9 : Int) + ior IntKind.i64 (ior IntKind.i64 (ishl
  IntKind.i64 (IntKind.wrap IntKind.i64 (cellI (bCells x) (k + 0))) (16 : Int)) (ishl IntKind.i64 (IntKind.wrap IntKind.i64 (cellI (bCells x) (k + 1))) (8 : Int)))
  (IntKind.wrap IntKind.i64 (cellI (bCells x) (k + 2)))) <= (↑(List.length x - k) : Int) /\ (↑(List.length x - k) : Int) <= (↑(List.length x - k) : Int))) (∃ j : Se, ((Inv
  j) /\ ((q j < q (l, k)) /\ ((0 = 0) /\ ((0 = 0) /\ ((0 = 0) /\ ((List.length j.1 = List.length l + 1) /\ ((j.2 = k + Int.toNat (IntKind.wrap IntKind.i64 ((9 : Int) + ior
  IntKind.i64 (ior IntKind.i64 (ishl IntKind.i64 (IntKind.wrap IntKind.i64 (cellI (bCells x) (k + 0))) (16 : Int)) (ishl IntKind.i64 (IntKind.wrap IntKind.i64 (cellI (bCells
  x) (k + 1))) (8 : Int))) (IntKind.wrap IntKind.i64 (cellI (bCells x) (k + 2))))) * 1) /\ ((List.length x - j.2 = Int.toNat (↑(List.length x - k) : Int) - Int.toNat
  (IntKind.wrap IntKind.i64 ((9 : Int) + ior IntKind.i64 (ior IntKind.i64 (ishl IntKind.i64 (IntKind.wrap IntKind.i64 (cellI (bCells x) (k + 0))) (16 : Int)) (ishl
  IntKind.i64 (IntKind.wrap IntKind.i64 (cellI (bCells x) (k + 1))) (8 : Int))) (IntKind.wrap IntKind.i64 (cellI (bCells x) (k + 2)))))) /\ ((bz st = bz st) /\ ((m = m) /\
  (((0 : Int) = (0 : Int)) /\ (((0 : Int) = (0 : Int)) /\ (((0 : Int) = (0 : Int)) /\ (((0 : Int) = (0 : Int)) /\ (((0 : Int) = (0 : Int)) /\ (((0 : Int) = (0 : Int)) /\
  ((Eq (α := List Value) (bCells x) (bCells x)) /\ ((Plain (bCells x)) /\ ((Eq (α := List Value) (gC enG j.1) (List.take (List.length l * 4) (List.drop 0 (gC enG l)) ++
  [Value.int IntKind.i64 (IntKind.wrap IntKind.i64 (cellI (bCells x) (k + 3))), Value.int IntKind.i64 (IntKind.wrap IntKind.i64 (cellI (bCells x) (k + 4))), Value.int
  IntKind.i64 (ior IntKind.i64 (ior IntKind.i64 (ior IntKind.i64 (ishl IntKind.i64 (IntKind.wrap IntKind.i64 (iand IntKind.u8 (cellI (bCells x) (k + 5)) (127 : Int))) (24 :
  Int)) (ishl IntKind.i64 (IntKind.wrap IntKind.i64 (cellI (bCells x) (k + 6))) (16 : Int))) (ishl IntKind.i64 (IntKind.wrap IntKind.i64 (cellI (bCells x) (k + 7))) (8 :
  Int))) (IntKind.wrap IntKind.i64 (cellI (bCells x) (k + 8)))), Value.slice (some (Addr.mk (gCode (shown ([] ++ List.take ((Int.toNat (IntKind.wrap IntKind.i64 ((9 : Int) +
  ior IntKind.i64 (ior IntKind.i64 (ishl IntKind.i64 (IntKind.wrap IntKind.i64 (cellI (bCells x) (k + 0))) (16 : Int)) (ishl IntKind.i64 (IntKind.wrap IntKind.i64 (cellI
  (bCells x) (k + 1))) (8 : Int))) (IntKind.wrap IntKind.i64 (cellI (bCells x) (k + 2))))) - 9) * 1) (List.drop (k + 9) (bCells x))) 0 (0 + (Int.toNat (IntKind.wrap
  IntKind.i64 ((9 : Int) + ior IntKind.i64 (ior IntKind.i64 (ishl IntKind.i64 (IntKind.wrap IntKind.i64 (cellI (bCells x) (k + 0))) (16 : Int)) (ishl IntKind.i64
  (IntKind.wrap IntKind.i64 (cellI (bCells x) (k + 1))) (8 : Int))) (IntKind.wrap IntKind.i64 (cellI (bCells x) (k + 2))))) - 9)) 1)) 0 (some 0))) (0 + (Int.toNat
  (IntKind.wrap IntKind.i64 ((9 : Int) + ior IntKind.i64 (ior IntKind.i64 (ishl IntKind.i64 (IntKind.wrap IntKind.i64 (cellI (bCells x) (k + 0))) (16 : Int)) (ishl
  IntKind.i64 (IntKind.wrap IntKind.i64 (cellI (bCells x) (k + 1))) (8 : Int))) (IntKind.wrap IntKind.i64 (cellI (bCells x) (k + 2))))) - 9)) 1])) /\ ((Plain (gC enG j.1))
  /\ True))))))))))))))))))))) False)) False))))))))))))) False) False)) False) False) False) False) False)) False)) False)))))))))))))) False)) False)) False))
  False))))))))))))) False)) False)) False) (∃ y : Se, (((y.2 <= List.length x /\ (k0 <= y.2 /\ runS st m x k0 = (y.1, y.2 - k0, false)))) /\ ((0 = 0) /\ ((0 = 0) /\
  ((List.length y.1 = List.length l) /\ ((y.2 = k) /\ ((List.length x - y.2 = List.length x - k) /\ ((bz st = bz st) /\ ((m = m) /\ (((0 : Int) = (0 : Int)) /\ (((0 : Int) =
  (0 : Int)) /\ (((0 : Int) = (0 : Int)) /\ (((0 : Int) = (0 : Int)) /\ (((0 : Int) = (0 : Int)) /\ (((0 : Int) = (0 : Int)) /\ ((Eq (α := List Value) (bCells x) (bCells x))
  /\ ((Plain (bCells x)) /\ ((Eq (α := List Value) (gC enG y.1) (gC enG l)) /\ ((Plain (gC enG y.1)) /\ True)))))))))))))))))))) (∃ y : Se, (((y.2 <= List.length x /\ (k0 <=
  y.2 /\ runS st m x k0 = (y.1, y.2 - k0, false)))) /\ ((0 = 0) /\ ((0 = 0) /\ ((List.length y.1 = List.length l) /\ ((y.2 = k) /\ ((List.length x - y.2 = List.length x - k)
  /\ ((bz st = bz st) /\ ((m = m) /\ (((0 : Int) = (0 : Int)) /\ (((0 : Int) = (0 : Int)) /\ (((0 : Int) = (0 : Int)) /\ (((0 : Int) = (0 : Int)) /\ (((0 : Int) = (0 : Int))
  /\ (((0 : Int) = (0 : Int)) /\ ((Eq (α := List Value) (bCells x) (bCells x)) /\ ((Plain (bCells x)) /\ ((Eq (α := List Value) (gC enG y.1) (gC enG l)) /\ ((Plain (gC enG
  y.1)) /\ True)))))))))))))))))))) := by kernel_rfl
theorem Y_vc (x b s x2 s2 : List UInt8) (k k2 : Nat) (m sc co sc2 co2 : Int) (l : List Bf) : mcall E0 mW 60 23 [.pointer (some ⟨0, 0, none⟩), slc 1 b.length] ⟨mkR (nums 0 [rdW 2 k (x.length - k) m s sc co, bRo b, bOwn x]), 3⟩ (retIsM 3 (.tuple ⟨[slc4 5 l.length, badV sc2 co2 0]⟩) 6 [(0, rdW 4 k2 (x2.length - k2) m s2 sc2 co2), (4, bOwn x2), (5, gOwn enG l)]) =
  (br (sc != (0 : Int)) ((Value.agg (Array.mk [Value.int IntKind.i64 sc, Value.int IntKind.i64 co, Value.int IntKind.i64 (0 : Int)]) = Value.agg (Array.mk [Value.int
  IntKind.i64 sc, Value.int IntKind.i64 co, Value.int IntKind.i64 (0 : Int)])) /\ ((List.length l = 0) /\ ((sc2 = sc) /\ ((co2 = co) /\ (((0 : Int) = (0 : Int)) /\ ((k2 = k)
  /\ ((List.length x2 - k2 = List.length x - k) /\ ((bz s2 = bz s) /\ ((m = m) /\ ((sc2 = sc) /\ ((co2 = co) /\ (((0 : Int) = (0 : Int)) /\ ((Eq (α := List Value) (bCells
  x2) (bCells x)) /\ ((Plain (bCells x2)) /\ ((Eq (α := List Value) (gC enG l) ([])) /\ True))))))))))))))) (br (decide (k + (List.length x - k) * 1 <= List.length (bCells
  x))) (br (allOne (List.take ((List.length x - k) * 1) (List.drop k (bCells x)))) (br (decide (0 + (List.length x - k) <= 16777216)) (br (decide (0 + List.length b * 1 <=
  List.length (bCells b))) (br (allOne (List.take (List.length b * 1) (List.drop 0 (bCells b)))) (br (decide (0 + (List.length x - k) + List.length b <= 16777216)) (br
  (decide (0 < 0 + (List.length x - k) + List.length b ∨ List.length ([] ++ List.take ((List.length x - k) * 1) (List.drop k (bCells x))) = 0)) (br (decide (0 + (0 +
  (List.length x - k)) * 1 <= List.length ([] ++ List.take ((List.length x - k) * 1) (List.drop k (bCells x))))) (∃ g : Gw, ((True) /\ ((0 = 0) /\ ((0 = 0) /\ ((0 = 0) /\
  ((List.length g.1 - 0 = 0 + (List.length x - k) + List.length b) /\ ((bz (List.drop 0 g.3) = bz s) /\ ((g.2 = m) /\ (((0 : Int) = sc) /\ (((0 : Int) = co) /\ (((0 : Int) =
  (0 : Int)) /\ (((0 : Int) = (0 : Int)) /\ (((0 : Int) = (0 : Int)) /\ (((0 : Int) = (0 : Int)) /\ ((Eq (α := List Value) (bCells g.1) (List.take ((0 + (List.length x - k))
  * 1) (List.drop 0 ([] ++ List.take ((List.length x - k) * 1) (List.drop k (bCells x)))) ++ List.take (List.length b * 1) (List.drop 0 (bCells b)))) /\ ((Plain (bCells
  g.1)) /\ (∀ (side : Bool), (br (side) (∀ (y : Nat), ((DoneW g y) → (∃ g2 : Gv, ((List.length g2.1 <= 16777216 /\ g2.3 <= List.length g2.1) /\ ((0 = 0) /\ ((0 = 0) /\ ((0 =
  0) /\ ((g2.3 = y) /\ ((List.length g2.1 - g2.3 = List.length g.1 - y) /\ ((bz g2.4 = bz (List.drop y g.3)) /\ ((g2.2 = g.2) /\ (((0 : Int) = (0 : Int)) /\ (((0 : Int) = (0
  : Int)) /\ (((0 : Int) = (0 : Int)) /\ (((0 : Int) = (0 : Int)) /\ (((0 : Int) = (0 : Int)) /\ (((0 : Int) = (0 : Int)) /\ ((Eq (α := List Value) (bCells g2.1) (bCells
  g.1)) /\ ((Plain (bCells g2.1)) /\ ((Eq (α := List Value) ([]) ([])) /\ (∀ (side2 : Bool), (br (side2) (∀ (y2 : Se), ((y2.2 <= List.length g2.1 /\ g2.3 <= y2.2 /\ runS
  (Gv.st g2) (Gv.m g2) (Gv.x g2) (Gv.k g2) = (Prod.fst y2, Prod.snd y2 - Gv.k g2, false)) → ((0 = 0) /\ ((List.length l = List.length y2.1) /\ ((sc2 = (0 : Int)) /\ ((co2 =
  (0 : Int)) /\ (((0 : Int) = (0 : Int)) /\ ((k2 = y2.2) /\ ((List.length x2 - k2 = List.length g2.1 - y2.2) /\ ((bz s2 = bz g2.4) /\ ((m = g2.2) /\ ((sc2 = (0 : Int)) /\
  ((co2 = (0 : Int)) /\ (((0 : Int) = (0 : Int)) /\ ((Eq (α := List Value) (bCells x2) (bCells g2.1)) /\ ((Plain (bCells x2)) /\ ((Eq (α := List Value) (gC enG l) (gC enG
  y2.1)) /\ ((Plain (gC enG l)) /\ True)))))))))))))))))) (∀ (y2 : Se), ((∃ k, runS (Gv.st g2) (Gv.m g2) (Gv.x g2) (Gv.k g2) = (Prod.fst y2, k, true)) → ((0 = 0) /\
  ((List.length l = List.length y2.1) /\ ((sc2 = (2 : Int)) /\ ((co2 = (6 : Int)) /\ (((0 : Int) = (0 : Int)) /\ ((List.length x2 - k2 = 0) /\ ((bz s2 = bz g2.4) /\ ((m =
  g2.2) /\ ((sc2 = (2 : Int)) /\ ((co2 = (6 : Int)) /\ (((0 : Int) = (0 : Int)) /\ ((Eq (α := List Value) (bCells x2) ([])) /\ ((Eq (α := List Value) (gC enG l) (gC enG
  y2.1)) /\ ((Plain (gC enG l)) /\ True)))))))))))))))))))))))))))))))))))))) (∀ (y : Nat), ((MissW g y) → ((List.length l = 0) /\ ((sc2 = (2 : Int)) /\ ((co2 = (1 : Int))
  /\ (((0 : Int) = (0 : Int)) /\ ((List.length x2 - k2 = 0) /\ ((bz s2 = bz (List.drop y g.3)) /\ ((m = g.2) /\ ((sc2 = (2 : Int)) /\ ((co2 = (1 : Int)) /\ (((0 : Int) = (0
  : Int)) /\ ((Eq (α := List Value) (bCells x2) ([])) /\ ((Eq (α := List Value) (gC enG l) ([])) /\ True)))))))))))))))))))))))))))))))) False) (∃ g : Gw, ((True) /\ ((0 =
  0) /\ ((0 = 0) /\ ((0 = 0) /\ ((List.length g.1 - 0 = 0 + (List.length x - k)) /\ ((bz (List.drop 0 g.3) = bz s) /\ ((g.2 = m) /\ (((0 : Int) = sc) /\ (((0 : Int) = co) /\
  (((0 : Int) = (0 : Int)) /\ (((0 : Int) = (0 : Int)) /\ (((0 : Int) = (0 : Int)) /\ (((0 : Int) = (0 : Int)) /\ ((Eq (α := List Value) (bCells g.1) ([] ++ List.take
  ((List.length x - k) * 1) (List.drop k (bCells x)))) /\ ((Plain (bCells g.1)) /\ (∀ (side : Bool), (br (side) (∀ (y : Nat), ((DoneW g y) → (∃ g2 : Gv, ((List.length g2.1
  <= 16777216 /\ g2.3 <= List.length g2.1) /\ ((0 = 0) /\ ((0 = 0) /\ ((0 = 0) /\ ((g2.3 = y) /\ ((List.length g2.1 - g2.3 = List.length g.1 - y) /\ ((bz g2.4 = bz
  (List.drop y g.3)) /\ ((g2.2 = g.2) /\ (((0 : Int) = (0 : Int)) /\ (((0 : Int) = (0 : Int)) /\ (((0 : Int) = (0 : Int)) /\ (((0 : Int) = (0 : Int)) /\ (((0 : Int) = (0 :
  Int)) /\ (((0 : Int) = (0 : Int)) /\ ((Eq (α := List Value) (bCells g2.1) (bCells g.1)) /\ ((Plain (bCells g2.1)) /\ ((Eq (α := List Value) ([]) ([])) /\ (∀ (side2 :
  Bool), (br (side2) (∀ (y2 : Se), ((y2.2 <= List.length g2.1 /\ g2.3 <= y2.2 /\ runS (Gv.st g2) (Gv.m g2) (Gv.x g2) (Gv.k g2) = (Prod.fst y2, Prod.snd y2 - Gv.k g2, false))
  → ((0 = 0) /\ ((List.length l = List.length y2.1) /\ ((sc2 = (0 : Int)) /\ ((co2 = (0 : Int)) /\ (((0 : Int) = (0 : Int)) /\ ((k2 = y2.2) /\ ((List.length x2 - k2 =
  List.length g2.1 - y2.2) /\ ((bz s2 = bz g2.4) /\ ((m = g2.2) /\ ((sc2 = (0 : Int)) /\ ((co2 = (0 : Int)) /\ (((0 : Int) = (0 : Int)) /\ ((Eq (α := List Value) (bCells x2)
  (bCells g2.1)) /\ ((Plain (bCells x2)) /\ ((Eq (α := List Value) (gC enG l) (gC enG y2.1)) /\ ((Plain (gC enG l)) /\ True)))))))))))))))))) (∀ (y2 : Se), ((∃ k, runS
  (Gv.st g2) (Gv.m g2) (Gv.x g2) (Gv.k g2) = (Prod.fst y2, k, true)) → ((0 = 0) /\ ((List.length l = List.length y2.1) /\ ((sc2 = (2 : Int)) /\ ((co2 = (6 : Int)) /\ (((0 :
  Int) = (0 : Int)) /\ ((List.length x2 - k2 = 0) /\ ((bz s2 = bz g2.4) /\ ((m = g2.2) /\ ((sc2 = (2 : Int)) /\ ((co2 = (6 : Int)) /\ (((0 : Int) = (0 : Int)) /\ ((Eq (α :=
  List Value) (bCells x2) ([])) /\ ((Eq (α := List Value) (gC enG l) (gC enG y2.1)) /\ ((Plain (gC enG l)) /\ True)))))))))))))))))))))))))))))))))))))) (∀ (y : Nat),
  ((MissW g y) → ((List.length l = 0) /\ ((sc2 = (2 : Int)) /\ ((co2 = (1 : Int)) /\ (((0 : Int) = (0 : Int)) /\ ((List.length x2 - k2 = 0) /\ ((bz s2 = bz (List.drop y
  g.3)) /\ ((m = g.2) /\ ((sc2 = (2 : Int)) /\ ((co2 = (1 : Int)) /\ (((0 : Int) = (0 : Int)) /\ ((Eq (α := List Value) (bCells x2) ([])) /\ ((Eq (α := List Value) (gC enG
  l) ([])) /\ True))))))))))))))))))))))))))))))))) False) False) False) False) False) False)) := by kernel_rfl
theorem W_piece : PieceOk E0 3 (23, pW, specW) := by
  refine piece_loop mixed (calls_envN _) (lok_envN _) lm_none (n := 60) (by kernel_rfl) (fun _ : Gw => (0 : Nat)) (fun g j => j ≤ g.s.length ∧ j ≤ g.y.length ∧ agr g.s g.y j) (fun g j => g.y.length - j) (sl := fun _ _ => slW) (rl := rlW) (fun g hg => ⟨Nat.zero_le _, Nat.zero_le _, fun i hi => absurd hi (Nat.not_lt_zero _)⟩) (fun g j hg hi => ?_)
  refine (W_round g j _ _).mpr ?_
  obtain ⟨h1, h2, h3⟩ := hi
  simp only [ofNat_eq, toNat_cast, Nat.zero_add, Nat.add_zero, Nat.mul_one, List.drop_zero, bCells_len, bCells_drop, bCells_take, bCells_app, bCells_one, bCells_plain, List.length_replicate, List.length_append, List.length_take, List.length_drop, List.take_length, and_true, true_and, and_self, decide_true, List.length_nil, List.length_cons, Nat.sub_zero, dB_mk, dB_ro, List.take_zero, bz_len, List.length_drop]
  refine br_if (fun k1 => br_if (fun k2 => ?_) (fun k2 => ⟨j, ⟨h1, h2, h3, by omega⟩, rfl, rfl, rfl⟩)) (fun k1 => ⟨j, ⟨h1, h2, h3, by omega⟩, rfl, rfl, rfl⟩)
  have hj : j < g.y.length := by omega
  have c1 := bCells_cell hj
  have c2 := bCells_at hj
  have e1 : sub (bz (g.s.drop j)) 1 (g.s.length - j) = bz (g.s.drop (j + 1)) := by
    have := bz_sub (g.s.drop j)
    rw [List.length_drop, List.drop_drop] at this
    exact this
  simp (disch := omega) only [brD, c1, bz_at, getD_drop, e1, Int.toNat_natCast]
  rw [c1] at c2
  refine ⟨c2, c2, br_intro (fun h => ⟨j, ⟨by omega, by omega, h3, fun e => ?_⟩, rfl⟩) (fun h => ⟨j + 1, ⟨by omega, by omega, fun i hi => ?_⟩, by omega, rfl, by omega, rfl⟩)⟩
  · rw [e] at h; simp at h
  · rcases Nat.lt_or_ge i j with h4 | h4
    · exact h3 i h4
    · have : i = j := by omega
      subst this
      have h : ((g.y.getD i 0).toNat : Int) = ((g.s.getD i 0).toNat : Int) := by simpa using h
      exact (UInt8.toNat_inj.mp (by omega)).symm
theorem and127 : ∀ a : Nat, a < 256 → iand .u8 ((a : Nat) : Int) 127 = ((a % 128 : Nat) : Int) := by
  intro a ha
  have := iand8_nat (a := a) (b := 127) (by omega) (by omega)
  rw [show ((127 : Nat) : Int) = 127 from rfl] at this
  rw [this]
  congr 1
  have : (127 : Nat) = 2 ^ 7 - 1 := rfl
  rw [this, Nat.and_two_pow_sub_one_eq_mod]
theorem V_piece : PieceOk E0 3 (23, pV, specV) := by
  refine piece_loop mixed (calls_envN _) (lok_envN _) lm_none (n := 60) (by kernel_rfl) (fun g : Gv => (([], g.k) : Se)) (fun g s => InvV g s) (fun g s => g.x.length - s.2) (sl := fun _ s => slE s.1) (rl := fun g s => rlV g.st g.x g.m s.1 s.2) (fun g hg => ⟨hg.2, Nat.le_refl _, Nat.zero_le _, by simp⟩) (fun g s hg hi => ?_)
  obtain ⟨x, m, k0, st⟩ := g
  obtain ⟨l, k⟩ := s
  have hg : x.length ≤ 16777216 := hg.1
  obtain ⟨h1, h0, h2, h3⟩ := hi
  simp only at h0 h1 h2 h3
  refine (V_round st x m l k k0 _ _).mpr ?_
  simp only [ofNat_eq, toNat_cast, Nat.zero_add, Nat.add_zero, Nat.mul_one, List.drop_zero, bCells_len, bCells_drop, bCells_take, bCells_app, bCells_one, bCells_plain, List.length_replicate, List.length_append, List.length_take, List.length_drop, List.take_length, and_true, true_and, and_self, decide_true, List.length_nil, List.length_cons, Nat.sub_zero, dB_mk, dB_ro, List.take_zero, bz_len]
  refine br_intro (fun hst0 => ?_) (fun hst0 => ?_)
  rotate_left
  · have hn : ¬ st.length = 0 := by intro e; rw [e] at hst0; simp at hst0
    have e : ∀ i, runS st m x i = ([], 0, false) := fun i => by unfold runS; rw [if_neg hn]
    rw [e, e] at h3
    simp only [Prod.mk.injEq, List.append_nil, and_true] at h3
    refine ⟨(l, k), ⟨h1, h0, ?_⟩, rfl, rfl, rfl, rfl, enG_pl _⟩
    rw [e]; simp only [Prod.mk.injEq, and_true]; exact ⟨h3.1, by omega⟩
  have e : ∀ i, runS st m x i = run m x.length (x.drop i) := fun i => by unfold runS; rw [if_pos (by simp at hst0; exact (by simp [hst0]))]
  simp only [InvV, e] at h3 ⊢
  have hy : (x.drop k).length = x.length - k := List.length_drop
  have hst := run_step m (n := x.length) (x := x.drop k) (by omega)
  refine br_if (fun h9 => ?_) (fun h9 => ?_)
  · have h9 : 9 ≤ x.length - k := by have : (9 : Int) ≤ ((x.length - k : Nat) : Int) := h9; omega
    rw [if_neg (by omega)] at hst
    have at' : ∀ i, i < 9 → ((bCells x)[k + i]? = some (Value.int IntKind.u8 (cellI (bCells x) (k + i)))) := fun i hi => bCells_at (by omega)
    have a0 : (bCells x)[k]? = some (Value.int IntKind.u8 (cellI (bCells x) k)) := bCells_at (by omega)
    have hl : lenF (x.drop k) = bt x k * 65536 + bt x (k + 1) * 256 + bt x (k + 2) := by unfold lenF; rw [bt_drop, bt_drop, bt_drop, Nat.add_zero]
    have hlt := len_lt (x.drop k)
    have hn3 := num3 (bt x k) (bt x (k + 1)) (bt x (k + 2)) (bt_lt _ _) (bt_lt _ _) (bt_lt _ _)
    rw [← hl] at hn3
    have h5 := and127 _ (bt_lt x (k + 5))
    have hn4 := num4 (bt x (k + 5) % 128) (bt x (k + 6)) (bt x (k + 7)) (bt x (k + 8)) (by omega) (bt_lt _ _) (bt_lt _ _) (bt_lt _ _)
    simp (disch := omega) only [a0, at' 1, at' 2, at' 3, at' 4, at' 5, at' 6, at' 7, at' 8, bt_c, hn3, h5, hn4, brD]
    generalize hL : lenF (x.drop k) = L at *
    have w9 : IntKind.i64.wrap (9 + (L : Int)) = ((9 + L : Nat) : Int) := by rw [wr64_id (by unfold I64; omega)]; omega
    simp only [w9, toNat_cast, true_and]
    refine br_if (fun hm => ?_) (fun hm => br_if (fun hs => ?_) (fun hs => ?_))
    · rw [if_pos hm] at hst
      rw [hst] at h3
      refine ⟨(l, 0), ⟨k - k0, ?_⟩, rfl, rfl, enG_pl _⟩
      rw [h3]; simp
    · rw [if_neg hm, if_pos (by omega)] at hst
      rw [hst] at h3
      refine ⟨(l, k), ⟨h1, h0, ?_⟩, rfl, rfl, rfl, rfl, enG_pl _⟩
      rw [h3]; simp
    · have hs' : 9 + L ≤ x.length - k := by omega
      rw [if_neg hm, if_neg (by omega)] at hst
      rw [hst] at h3
      simp (disch := omega) only [brD]
      have hP : (List.take (9 + L - 9) (List.drop (k + 9) x)).length = 9 + L - 9 := by rw [List.length_take, List.length_drop]; omega
      have hsh : shown ([] ++ bCells (List.take (9 + L - 9) (List.drop (k + 9) x))) 0 (9 + L - 9) 1 = bCells (List.take (9 + L - 9) (List.drop (k + 9) x)) := by
        unfold shown; rw [List.nil_append, List.drop_zero, List.take_of_length_le (by rw [bCells_len, hP]; omega)]
      have hdd : List.drop (9 + L) (List.drop k x) = List.drop (k + (9 + L)) x := by rw [List.drop_drop]
      have tk : List.take (l.length * 4) (gC enG l) = gC enG l := List.take_of_length_le (by rw [gC_len enG_k]; omega)
      have hf : fr1 (List.drop k x) = ⟨bt x (k + 3), bt x (k + 4), bt x (k + 5) % 128 * 16777216 + bt x (k + 6) * 65536 + bt x (k + 7) * 256 + bt x (k + 8), List.take (9 + L - 9) (List.drop (k + 9) x)⟩ := by
        unfold fr1 strF
        rw [hL, List.drop_take, List.drop_drop, bt_drop, bt_drop, bt_drop, bt_drop, bt_drop, bt_drop]
      have b3 := bt_lt x (k + 3)
      have b4 := bt_lt x (k + 4)
      refine br_b rfl ⟨by rw [hsh]; exact bCells_g _, br_dec (by rw [gC_len enG_k]; exact Nat.le_refl _) ⟨(l ++ [fr1 (List.drop k x)], k + (9 + L)), ⟨by simp only; omega, by simp only; omega, by simp only [List.length_append, List.length_cons, List.length_nil]; omega, ?_⟩, by simp only; omega, by simp, rfl, by simp only; omega, ?_, enG_pl _⟩⟩
      · simp only
        rw [h3, hdd]
        generalize run m x.length (List.drop (k + (9 + L)) x) = r
        obtain ⟨r1, r2, r3⟩ := r
        simp only [List.append_assoc, List.singleton_append, Prod.mk.injEq, true_and, and_true]
        omega
      · simp only
        rw [← gC_app, tk, hsh, hf, w64 (by omega), w64 (by omega)]
        have : gC enG [(⟨bt x (k + 3), bt x (k + 4), bt x (k + 5) % 128 * 16777216 + bt x (k + 6) * 65536 + bt x (k + 7) * 256 + bt x (k + 8), List.take (9 + L - 9) (List.drop (k + 9) x)⟩ : Bf)] = [Value.int .i64 (bt x (k + 3) : Nat), Value.int .i64 (bt x (k + 4) : Nat), Value.int .i64 (bt x (k + 5) % 128 * 16777216 + bt x (k + 6) * 65536 + bt x (k + 7) * 256 + bt x (k + 8) : Nat), Value.slice (some ⟨gCode (bCells (List.take (9 + L - 9) (List.drop (k + 9) x))), 0, some 0⟩) (List.take (9 + L - 9) (List.drop (k + 9) x)).length 1] := rfl
        rw [this, hP]
  · have h9 : x.length - k < 9 := by have : ¬ (9 : Int) ≤ ((x.length - k : Nat) : Int) := h9; omega
    rw [if_pos (by omega)] at hst
    rw [hst] at h3
    refine ⟨(l, k), ⟨h1, h0, ?_⟩, rfl, rfl, rfl, rfl, enG_pl _⟩
    rw [h3]; simp
theorem doneW_ok {g : Gw} {y : Nat} (h : DoneW g y) : y = mn g.s g.y ∧ okP g.s g.y = true := by
  obtain ⟨h1, h2, h3, h4⟩ := h
  have e : y = mn g.s g.y := by unfold mn; omega
  refine ⟨e, ?_⟩
  unfold okP
  rw [← e]; exact decide_eq_true h3
theorem missW_ok {g : Gw} {j : Nat} (h : MissW g j) : okP g.s g.y = false := by
  obtain ⟨h1, h2, h3, h4⟩ := h
  unfold okP
  exact decide_eq_false (fun h5 => h4 (h5 j (by unfold mn; omega)))
theorem missW_one {g : Gw} {i j : Nat} (h : MissW g i) (h' : MissW g j) : i = j := by
  obtain ⟨_, _, a1, a2⟩ := h
  obtain ⟨_, _, b1, b2⟩ := h'
  rcases Nat.lt_trichotomy i j with h | h | h
  · exact absurd (b1 i h) a2
  · exact h
  · exact absurd (a1 j h) b2
theorem Y_con (q : Rq) (b : List UInt8) (m : Int) (hr : RdOk q.r) (hc : q.r.bad = false → q.c = 0) (hl : q.r.x.length + b.length ≤ 16777216) :
    ConM Try.prog 23 [.pointer (some ⟨0, 0, none⟩), slc 1 b.length] [rdW 2 q.r.k (q.r.x.length - q.r.k) m q.s (scB q.r.bad) q.c, bRo b, bOwn q.r.x]
      (.tuple ⟨[slc4 5 (dqL m q b).length, badV (scB (dqB m q b)) (dqC m q b) 0]⟩) 6
      [(0, rdW 4 (dqS m q b).k ((dqS m q b).x.length - (dqS m q b).k) m (dqT m q b) (scB (dqB m q b)) (dqC m q b)), (4, bOwn (dqS m q b).x), (5, gOwn enG (dqL m q b))] := by
  refine conM_vc (E := E0) mixed (calls_envN _) (lok_envN _) (M := mW) (lm_two W_piece V_piece) (Y_vc q.r.x b q.s _ _ q.r.k _ m _ _ _ _ _) ?_
  obtain ⟨r, s, c⟩ := q
  obtain ⟨h1, h2⟩ := hr
  simp only at h1 h2 hc hl
  simp only [ofNat_eq, toNat_cast, Nat.zero_add, Nat.add_zero, Nat.mul_one, List.drop_zero, bCells_len, bCells_drop, bCells_take, bCells_app, bCells_one, bCells_plain, List.length_replicate, List.length_append, List.length_take, List.length_drop, List.take_length, and_true, true_and, and_self, decide_true, List.length_nil, List.length_cons, Nat.sub_zero, dB_mk, dB_ro, List.take_zero, bz_len]
  cases hb : r.bad with
  | true =>
    have e1 : dqL m ⟨r, s, c⟩ b = [] := by unfold dqL; rw [if_pos hb]
    have e2 : dqS m ⟨r, s, c⟩ b = r := by unfold dqS; rw [if_pos hb]
    have e3 : dqB m ⟨r, s, c⟩ b = true := by unfold dqB; rw [hb]; rfl
    have e4 : dqT m ⟨r, s, c⟩ b = s := by unfold dqT; rw [if_pos hb]
    have e5 : dqC m ⟨r, s, c⟩ b = c := by unfold dqC; rw [if_pos hb]
    rw [e1, e2, e3, e4, e5]
    exact ⟨rfl, rfl, rfl, rfl, rfl, rfl, rfl, rfl, rfl, rfl⟩
  | false =>
    obtain ⟨Y, hY⟩ : ∃ Y, Y = dqY ⟨r, s, c⟩ b := ⟨_, rfl⟩
    have eY : dqY ⟨r, s, c⟩ b = r.x.drop r.k ++ b := rfl
    have lY : Y.length = r.x.length - r.k + b.length := by rw [hY, eY, List.length_append, List.length_drop]
    refine br_nb rfl (br_dec (by omega) (br_b rfl (br_dec (by omega) (br_dec (by omega) (br_b rfl (br_dec (by omega) (br_dec (by omega) (br_dec (by omega) ⟨⟨Y, m, s⟩, ?_⟩))))))))
    have hO : dqO ⟨r, s, c⟩ b = okP s Y := by unfold dqO; rw [hY]
    refine ⟨lY, rfl, rfl, rfl, (hc hb).symm, ?_, fun side => br_side (fun y hd => ?_) (fun y hm => ?_) side⟩
    · simp only
      rw [hY, eY, List.nil_append, List.take_of_length_le (l := List.drop r.k r.x) (by rw [List.length_drop]; exact Nat.le_refl _), List.take_of_length_le (by rw [bCells_len, List.length_drop]; exact Nat.le_refl _), bCells_app]
    · obtain ⟨hy, hok⟩ := doneW_ok hd
      obtain ⟨hd1, hd2, _⟩ := hd
      simp only at hy hok hd1 hd2
      rw [← hO] at hok
      have eJ : dqJ ⟨r, s, c⟩ b = y := by unfold dqJ; rw [hy, hY]
      have eR : dqR m ⟨r, s, c⟩ b = runS (s.drop y) m Y y := by unfold dqR; rw [eJ, hY]
      have eT : dqT m ⟨r, s, c⟩ b = s.drop y := by unfold dqT; simp only; rw [if_neg (by simp [hb]), if_pos hok, eJ]
      refine ⟨⟨Y, m, y, s.drop y⟩, ⟨by simp only; omega, hd2⟩, rfl, rfl, rfl, rfl, rfl, fun side2 => br_side (fun y2 hy2 => ?_) (fun y2 hy2 => ?_) side2⟩
      · obtain ⟨z1, z2, z3⟩ := hy2
        simp only at z1 z2 z3
        rw [z3] at eR
        have e1 : dqL m ⟨r, s, c⟩ b = y2.1 := by unfold dqL; simp only; rw [if_neg (by simp [hb]), if_pos hok, eR]
        have e2 : dqS m ⟨r, s, c⟩ b = ⟨Y, y2.2, false⟩ := by
          unfold dqS; simp only; rw [if_neg (by simp [hb]), if_pos hok, eR, eJ, hY]; simp; omega
        have e3 : dqB m ⟨r, s, c⟩ b = false := by unfold dqB; simp only; rw [hb, hok, eR]; rfl
        have e5 : dqC m ⟨r, s, c⟩ b = 0 := by unfold dqC; simp only; rw [if_neg (by simp [hb]), if_pos hok, eR]; rfl
        rw [e1, e2, e3, e5, eT]
        exact ⟨rfl, rfl, rfl, rfl, rfl, rfl, rfl, rfl, rfl, rfl, rfl, enG_pl _⟩
      · obtain ⟨k2, z3⟩ := hy2
        simp only at z3
        rw [z3] at eR
        have e1 : dqL m ⟨r, s, c⟩ b = y2.1 := by unfold dqL; simp only; rw [if_neg (by simp [hb]), if_pos hok, eR]
        have e2 : dqS m ⟨r, s, c⟩ b = ⟨[], 0, true⟩ := by unfold dqS; simp only; rw [if_neg (by simp [hb]), if_pos hok, eR]; rfl
        have e3 : dqB m ⟨r, s, c⟩ b = true := by unfold dqB; simp only; rw [hb, hok, eR]; rfl
        have e5 : dqC m ⟨r, s, c⟩ b = 6 := by unfold dqC; simp only; rw [if_neg (by simp [hb]), if_pos hok, eR]; rfl
        rw [e1, e2, e3, e5, eT]
        exact ⟨rfl, rfl, rfl, rfl, rfl, rfl, rfl, rfl, rfl, rfl, enG_pl _⟩
    · have hok := missW_ok hm
      simp only at hok
      rw [← hO] at hok
      rw [hY] at hm
      have eM : dqM m ⟨r, s, c⟩ b = y := by
        have h : ∃ j, MissW ⟨dqY ⟨r, s, c⟩ b, m, s⟩ j := ⟨y, hm⟩
        unfold dqM
        rw [dif_pos h]
        exact missW_one (Classical.choose_spec h) hm
      have e1 : dqL m ⟨r, s, c⟩ b = [] := by unfold dqL; simp only; rw [if_neg (by simp [hb]), if_neg (by simp [hok])]
      have e2 : dqS m ⟨r, s, c⟩ b = ⟨[], 0, true⟩ := by unfold dqS; simp only; rw [if_neg (by simp [hb]), if_neg (by simp [hok])]
      have e3 : dqB m ⟨r, s, c⟩ b = true := by unfold dqB; simp only; rw [hok]; simp
      have e4 : dqT m ⟨r, s, c⟩ b = s.drop y := by unfold dqT; simp only; rw [if_neg (by simp [hb]), if_neg (by simp [hok]), eM]
      have e5 : dqC m ⟨r, s, c⟩ b = 1 := by unfold dqC; simp only; rw [if_neg (by simp [hb]), if_neg (by simp [hok])]
      rw [e1, e2, e3, e4, e5]
      exact ⟨rfl, rfl, rfl, rfl, rfl, rfl, rfl, rfl, rfl, rfl⟩
end Go.Proofs.Ytkeiogmapogpnaa.fe
