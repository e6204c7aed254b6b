/- A reader of frames, fed. -/
import Derived.Test.YtcallecdjebojaaGreatSz9
import Derived.Test.YtcallecdjebojaaGreatRows
import Derived.Test.YtcallecdjebojaaGreatLfdc
import Derived.Test.YtcallecdjebojaaGreatLgl
set_option maxRecDepth 20000
set_option linter.unusedSimpArgs false
set_option linter.unusedVariables false
namespace Go.Proofs.YtcallecdjebojaaGreat.fe
open Go Go.Ev Go.Sy Go.RowKit Go.Proofs.YtcallecdjebojaaGreat.s9 Go.Proofs.YtcallecdjebojaaGreat.fd Go.Proofs.YtcallecdjebojaaGreat.gl
structure Bf where
  t : Nat
  f : Nat
  s : Nat
  p : List UInt8
noncomputable def enG (a : Bf) : List Value := [.int .i64 a.t, .int .i64 a.f, .int .i64 a.s, .slice (some ⟨gCode (bCells a.p), 0, some 0⟩) a.p.length 1]
def fr1 (x : List UInt8) : Bf := ⟨bt x 3, bt x 4, strF x, (x.take (9 + lenF x)).drop 9⟩
def run (m : Int) : Nat → List UInt8 → List Bf × Nat × Bool
  | 0, _ => ([], 0, false)
  | n + 1, x => if x.length < 9 then ([], 0, false) else if (lenF x : Int) > m then ([], 0, true) else if x.length < 9 + lenF x then ([], 0, false) else
    (fr1 x :: (run m n (x.drop (9 + lenF x))).1, 9 + lenF x + (run m n (x.drop (9 + lenF x))).2.1, (run m n (x.drop (9 + lenF x))).2.2)
def rdC (r k n : Nat) (m : Int) : Row := ⟨[.slice (some ⟨r, k, none⟩) n 1, .int .i64 m, .string ⟨#[]⟩, .int .i64 0, .int .i64 0, .int .i64 0], false, .cells false⟩
def rdB (m : Int) : Row := ⟨[.slice none 0 0, .int .i64 m, .string ⟨#[]⟩, .int .i64 2, .int .i64 6, .int .i64 0], false, .cells false⟩
def badR (a b c : Int) : Row := ⟨[.int .i64 a, .int .i64 b, .int .i64 c], false, .cells false⟩
def badV (a b c : Int) : Value := .agg ⟨[.int .i64 a, .int .i64 b, .int .i64 c]⟩
def slc4 (r n : Nat) : Value := .slice (some ⟨r, 0, none⟩) n 4
def pE : List Nat := [0, 0, 1, 1, 1, 1, 1]
structure Ge where
  x : List UInt8
  m : Int
  k : Nat
abbrev Se := List Bf × Nat
noncomputable def slE (l : List Bf) : List (Nat × Value) := [(0, .pointer (some ⟨0, 0, none⟩)), (5, .pointer (some ⟨3, 0, none⟩)), (6, slc4 5 l.length)]
noncomputable def rlE (x : List UInt8) (m : Int) (l : List Bf) (k : Nat) : List (Nat × Row) := [(0, rdC 4 k (x.length - k) m), (3, badR 0 0 0), (4, bOwn x), (5, gOwn enG l)]
noncomputable def wsE (x : List UInt8) (m : Int) (k0 : Nat) : List (Gate Se) :=
  [⟨.exit 2, fun s => s.2 ≤ x.length ∧ k0 ≤ s.2 ∧ run m x.length (x.drop k0) = (s.1, s.2 - k0, false), fun s => [(5, .pointer (some ⟨3, 0, none⟩)), (6, slc4 5 s.1.length)], fun s => rlE x m s.1 s.2, 6⟩,
   ⟨.ret, fun s => ∃ k, run m x.length (x.drop k0) = (s.1, k, true), fun s => [(4, slc4 5 s.1.length), (5, .pointer (some ⟨3, 0, none⟩))], fun s => [(0, rdB m), (3, badR 2 6 0), (5, gOwn enG s.1)], 6⟩]
noncomputable def specE : Sy.Spec := specOf 3 6 130 (fun g : Ge => g.x.length ≤ 16777216 ∧ g.k ≤ g.x.length) (fun _ => slE []) (fun g => rlE g.x g.m [] g.k) (fun g => wsE g.x g.m g.k)
noncomputable def tF : List EntM := [eDec]
noncomputable abbrev EtF : Env := envT Tryz.prog tF
theorem E_round (n0 : Nat) (x : List UInt8) (m : Int) (l : List Bf) (k k0 : Nat) (Inv : Se → Prop) (q : Se → Nat) : mev EtF noM 60 48 (0 :: pE) false (codeOf Tryz.prog 48 (0 :: pE)) ⟨mkOv (slE l), 130, []⟩ none ⟨mkR (rlE x m l k), 6⟩ (roundK 3 6 130 Inv q (fun s => slE s.1) (fun s => rlE x m s.1 s.2) (wsE x m k0) (l, k)) =
  (br (decide (Int.ofNat (List.length x - k) ≥ (9 : Int))) (br (decide ((0 : Int) <= (0 : Int) /\ (0 : Int) < (↑(List.length x - k) : Int))) ((Eq (α := Option Value)
  ((bCells x)[k + 0]?) (some (Value.int IntKind.u8 (cellI (bCells x) (k + 0))))) /\ (br (decide ((0 : Int) <= (1 : Int) /\ (1 : Int) < (↑(List.length x - k) : Int))) ((Eq (α
  := Option Value) ((bCells x)[k + 1]?) (some (Value.int IntKind.u8 (cellI (bCells x) (k + 1))))) /\ (br (decide ((0 : Int) <= (2 : Int) /\ (2 : Int) < (↑(List.length x - k)
  : Int))) ((Eq (α := Option Value) ((bCells x)[k + 2]?) (some (Value.int IntKind.u8 (cellI (bCells x) (k + 2))))) /\ ((Value.slice (some (Addr.mk 4 k none)) (List.length x
  - k) 1 = Value.slice (some (Addr.mk 4 k none)) (List.length x - k) 1) /\ ((Eq (α := Option Value) ((bCells x)[k + 0]?) (some (Value.int IntKind.u8 (cellI (bCells x) (k +
  0))))) /\ ((Value.int IntKind.u8 (cellI (bCells x) (k + 0)) = Value.int IntKind.u8 (cellI (bCells x) (k + 0))) /\ ((Value.int IntKind.i64 (IntKind.wrap IntKind.i64 (cellI
  (bCells x) (k + 0))) = Value.int IntKind.i64 (IntKind.wrap IntKind.i64 (cellI (bCells x) (k + 0)))) /\ ((Value.slice (some (Addr.mk 4 k none)) (List.length x - k) 1 =
  Value.slice (some (Addr.mk 4 k none)) (List.length x - k) 1) /\ ((Eq (α := Option Value) ((bCells x)[k + 1]?) (some (Value.int IntKind.u8 (cellI (bCells x) (k + 1))))) /\
  ((Value.int IntKind.u8 (cellI (bCells x) (k + 1)) = Value.int IntKind.u8 (cellI (bCells x) (k + 1))) /\ ((Value.int IntKind.i64 (IntKind.wrap IntKind.i64 (cellI (bCells x)
  (k + 1))) = Value.int IntKind.i64 (IntKind.wrap IntKind.i64 (cellI (bCells x) (k + 1)))) /\ ((Value.slice (some (Addr.mk 4 k none)) (List.length x - k) 1 = Value.slice
  (some (Addr.mk 4 k none)) (List.length x - k) 1) /\ ((Eq (α := Option Value) ((bCells x)[k + 2]?) (some (Value.int IntKind.u8 (cellI (bCells x) (k + 2))))) /\ ((Value.int
  IntKind.u8 (cellI (bCells x) (k + 2)) = Value.int IntKind.u8 (cellI (bCells x) (k + 2))) /\ ((Value.int IntKind.i64 (IntKind.wrap IntKind.i64 (cellI (bCells x) (k + 2))) =
  Value.int IntKind.i64 (IntKind.wrap IntKind.i64 (cellI (bCells x) (k + 2)))) /\ (br (decide (ior IntKind.i64 (ior IntKind.i64 (ishl IntKind.i64 (IntKind.wrap IntKind.i64
  (cellI (bCells x) (k + 0))) (16 : Int)) (ishl IntKind.i64 (IntKind.wrap IntKind.i64 (cellI (bCells x) (k + 1))) (8 : Int))) (IntKind.wrap IntKind.i64 (cellI (bCells x) (k
  + 2))) > m)) (∃ y : Se, ((∃ k, run m (List.length x) (List.drop k0 x) = (Prod.fst y, k, true)) /\ ((0 = 0) /\ ((List.length y.1 = List.length l) /\ ((0 = 0) /\ ((m = m) /\
  ((ByteArray.mk #[] = ByteArray.mk #[]) /\ (((2 : Int) = (2 : Int)) /\ (((6 : Int) = (6 : Int)) /\ (((0 : Int) = (0 : Int)) /\ (((2 : Int) = (2 : Int)) /\ (((6 : Int) = (6
  : Int)) /\ (((0 : Int) = (0 : Int)) /\ ((Eq (α := List Value) (gC enG y.1) (gC enG l)) /\ ((Plain (gC enG y.1)) /\ True))))))))))))))) (br (decide (Int.ofNat (List.length
  x - k) < IntKind.wrap IntKind.i64 ((9 : Int) + ior IntKind.i64 (ior IntKind.i64 (ishl IntKind.i64 (IntKind.wrap IntKind.i64 (cellI (bCells x) (k + 0))) (16 : Int)) (ishl
  IntKind.i64 (IntKind.wrap IntKind.i64 (cellI (bCells x) (k + 1))) (8 : Int))) (IntKind.wrap IntKind.i64 (cellI (bCells x) (k + 2)))))) (∃ y : Se, (((y.2 <= List.length x
  /\ (k0 <= y.2 /\ run m (List.length x) (List.drop k0 x) = (y.1, y.2 - k0, false)))) /\ ((0 = 0) /\ ((0 = 0) /\ ((List.length y.1 = List.length l) /\ ((y.2 = k) /\
  ((List.length x - y.2 = List.length x - k) /\ ((m = m) /\ ((ByteArray.mk #[] = ByteArray.mk #[]) /\ (((0 : Int) = (0 : Int)) /\ (((0 : Int) = (0 : Int)) /\ (((0 : Int) =
  (0 : Int)) /\ (((0 : Int) = (0 : Int)) /\ (((0 : Int) = (0 : Int)) /\ (((0 : Int) = (0 : Int)) /\ ((Eq (α := List Value) (bCells x) (bCells x)) /\ ((Plain (bCells x)) /\
  ((Eq (α := List Value) (gC enG y.1) (gC enG l)) /\ ((Plain (gC enG y.1)) /\ True))))))))))))))))))) (br (decide ((0 : Int) <= (↑0 : Int) /\ (0 : Int) <= IntKind.wrap
  IntKind.i64 ((9 : Int) + ior IntKind.i64 (ior IntKind.i64 (ishl IntKind.i64 (IntKind.wrap IntKind.i64 (cellI (bCells x) (k + 0))) (16 : Int)) (ishl IntKind.i64
  (IntKind.wrap IntKind.i64 (cellI (bCells x) (k + 1))) (8 : Int))) (IntKind.wrap IntKind.i64 (cellI (bCells x) (k + 2)))) /\ IntKind.wrap IntKind.i64 ((9 : Int) + ior
  IntKind.i64 (ior IntKind.i64 (ishl IntKind.i64 (IntKind.wrap IntKind.i64 (cellI (bCells x) (k + 0))) (16 : Int)) (ishl IntKind.i64 (IntKind.wrap IntKind.i64 (cellI (bCells
  x) (k + 1))) (8 : Int))) (IntKind.wrap IntKind.i64 (cellI (bCells x) (k + 2)))) <= (↑(List.length x - k) : Int))) (((((k + 0 + (Int.toNat (IntKind.wrap IntKind.i64 ((9 :
  Int) + ior IntKind.i64 (ior IntKind.i64 (ishl IntKind.i64 (IntKind.wrap IntKind.i64 (cellI (bCells x) (k + 0))) (16 : Int)) (ishl IntKind.i64 (IntKind.wrap IntKind.i64
  (cellI (bCells x) (k + 1))) (8 : Int))) (IntKind.wrap IntKind.i64 (cellI (bCells x) (k + 2))))) - 0) * 1 <= List.length (bCells x) /\ Plain (List.take ((Int.toNat
  (IntKind.wrap IntKind.i64 ((9 : Int) + ior IntKind.i64 (ior IntKind.i64 (ishl IntKind.i64 (IntKind.wrap IntKind.i64 (cellI (bCells x) (k + 0))) (16 : Int)) (ishl
  IntKind.i64 (IntKind.wrap IntKind.i64 (cellI (bCells x) (k + 1))) (8 : Int))) (IntKind.wrap IntKind.i64 (cellI (bCells x) (k + 2))))) - 0) * 1) (List.drop (k + 0) (bCells
  x)))) /\ True) /\ ((True /\ True) /\ ((Plain (bCells (List.drop 9 (dB (Row.mk (List.take ((Int.toNat (IntKind.wrap IntKind.i64 ((9 : Int) + ior IntKind.i64 (ior
  IntKind.i64 (ishl IntKind.i64 (IntKind.wrap IntKind.i64 (cellI (bCells x) (k + 0))) (16 : Int)) (ishl IntKind.i64 (IntKind.wrap IntKind.i64 (cellI (bCells x) (k + 1))) (8
  : Int))) (IntKind.wrap IntKind.i64 (cellI (bCells x) (k + 2))))) - 0) * 1) (List.drop (k + 0) (bCells x))) true (Ob.cells true))))) /\ True) /\ (IsB (Row.mk (List.take
  ((Int.toNat (IntKind.wrap IntKind.i64 ((9 : Int) + ior IntKind.i64 (ior IntKind.i64 (ishl IntKind.i64 (IntKind.wrap IntKind.i64 (cellI (bCells x) (k + 0))) (16 : Int))
  (ishl IntKind.i64 (IntKind.wrap IntKind.i64 (cellI (bCells x) (k + 1))) (8 : Int))) (IntKind.wrap IntKind.i64 (cellI (bCells x) (k + 2))))) - 0) * 1) (List.drop (k + 0)
  (bCells x))) true (Ob.cells true)) (Int.toNat (IntKind.wrap IntKind.i64 ((9 : Int) + ior IntKind.i64 (ior IntKind.i64 (ishl IntKind.i64 (IntKind.wrap IntKind.i64 (cellI
  (bCells x) (k + 0))) (16 : Int)) (ishl IntKind.i64 (IntKind.wrap IntKind.i64 (cellI (bCells x) (k + 1))) (8 : Int))) (IntKind.wrap IntKind.i64 (cellI (bCells x) (k +
  2))))) - 0) /\ (9 <= Int.toNat (IntKind.wrap IntKind.i64 ((9 : Int) + ior IntKind.i64 (ior IntKind.i64 (ishl IntKind.i64 (IntKind.wrap IntKind.i64 (cellI (bCells x) (k +
  0))) (16 : Int)) (ishl IntKind.i64 (IntKind.wrap IntKind.i64 (cellI (bCells x) (k + 1))) (8 : Int))) (IntKind.wrap IntKind.i64 (cellI (bCells x) (k + 2))))) - 0 /\
  Int.toNat (IntKind.wrap IntKind.i64 ((9 : Int) + ior IntKind.i64 (ior IntKind.i64 (ishl IntKind.i64 (IntKind.wrap IntKind.i64 (cellI (bCells x) (k + 0))) (16 : Int)) (ishl
  IntKind.i64 (IntKind.wrap IntKind.i64 (cellI (bCells x) (k + 1))) (8 : Int))) (IntKind.wrap IntKind.i64 (cellI (bCells x) (k + 2))))) - 0 <= 16777216)))))) /\ (br (decide
  (0 + (Int.toNat (IntKind.wrap IntKind.i64 ((9 : Int) + ior IntKind.i64 (ior IntKind.i64 (ishl IntKind.i64 (IntKind.wrap IntKind.i64 (cellI (bCells x) (k + 0))) (16 : Int))
  (ishl IntKind.i64 (IntKind.wrap IntKind.i64 (cellI (bCells x) (k + 1))) (8 : Int))) (IntKind.wrap IntKind.i64 (cellI (bCells x) (k + 2))))) - 0 - 9) * 1 <= List.length
  (bCells (List.drop 9 (dB (Row.mk (List.take ((Int.toNat (IntKind.wrap IntKind.i64 ((9 : Int) + ior IntKind.i64 (ior IntKind.i64 (ishl IntKind.i64 (IntKind.wrap IntKind.i64
  (cellI (bCells x) (k + 0))) (16 : Int)) (ishl IntKind.i64 (IntKind.wrap IntKind.i64 (cellI (bCells x) (k + 1))) (8 : Int))) (IntKind.wrap IntKind.i64 (cellI (bCells x) (k
  + 2))))) - 0) * 1) (List.drop (k + 0) (bCells x))) true (Ob.cells true))))))) ((gAll (shown (bCells (List.drop 9 (dB (Row.mk (List.take ((Int.toNat (IntKind.wrap
  IntKind.i64 ((9 : Int) + ior IntKind.i64 (ior IntKind.i64 (ishl IntKind.i64 (IntKind.wrap IntKind.i64 (cellI (bCells x) (k + 0))) (16 : Int)) (ishl IntKind.i64
  (IntKind.wrap IntKind.i64 (cellI (bCells x) (k + 1))) (8 : Int))) (IntKind.wrap IntKind.i64 (cellI (bCells x) (k + 2))))) - 0) * 1) (List.drop (k + 0) (bCells x))) true
  (Ob.cells true))))) 0 (Int.toNat (IntKind.wrap IntKind.i64 ((9 : Int) + ior IntKind.i64 (ior IntKind.i64 (ishl IntKind.i64 (IntKind.wrap IntKind.i64 (cellI (bCells x) (k +
  0))) (16 : Int)) (ishl IntKind.i64 (IntKind.wrap IntKind.i64 (cellI (bCells x) (k + 1))) (8 : Int))) (IntKind.wrap IntKind.i64 (cellI (bCells x) (k + 2))))) - 0 - 9) 1) =
  true) /\ (br (decide (List.length l + 1 <= 16777216)) (br (decide (0 + List.length l * 4 <= List.length (gC enG l))) (br (decide ((0 : Int) <= IntKind.wrap IntKind.i64 ((9
  : Int) + ior IntKind.i64 (ior IntKind.i64 (ishl IntKind.i64 (IntKind.wrap IntKind.i64 (cellI (bCells x) (k + 0))) (16 : Int)) (ishl IntKind.i64 (IntKind.wrap IntKind.i64
  (cellI (bCells x) (k + 1))) (8 : Int))) (IntKind.wrap IntKind.i64 (cellI (bCells x) (k + 2)))) /\ IntKind.wrap IntKind.i64 ((9 : Int) + ior IntKind.i64 (ior IntKind.i64
  (ishl IntKind.i64 (IntKind.wrap IntKind.i64 (cellI (bCells x) (k + 0))) (16 : Int)) (ishl IntKind.i64 (IntKind.wrap IntKind.i64 (cellI (bCells x) (k + 1))) (8 : Int)))
  (IntKind.wrap IntKind.i64 (cellI (bCells x) (k + 2)))) <= (↑(List.length x - k) : Int) /\ (↑(List.length x - k) : Int) <= (↑(List.length x - k) : Int))) (∃ j : Se, ((Inv
  j) /\ ((q j < q (l, k)) /\ ((0 = 0) /\ ((0 = 0) /\ ((0 = 0) /\ ((List.length j.1 = List.length l + 1) /\ ((j.2 = k + Int.toNat (IntKind.wrap IntKind.i64 ((9 : Int) + ior
  IntKind.i64 (ior IntKind.i64 (ishl IntKind.i64 (IntKind.wrap IntKind.i64 (cellI (bCells x) (k + 0))) (16 : Int)) (ishl IntKind.i64 (IntKind.wrap IntKind.i64 (cellI (bCells
  x) (k + 1))) (8 : Int))) (IntKind.wrap IntKind.i64 (cellI (bCells x) (k + 2))))) * 1) /\ ((List.length x - j.2 = Int.toNat (↑(List.length x - k) : Int) - Int.toNat
  (IntKind.wrap IntKind.i64 ((9 : Int) + ior IntKind.i64 (ior IntKind.i64 (ishl IntKind.i64 (IntKind.wrap IntKind.i64 (cellI (bCells x) (k + 0))) (16 : Int)) (ishl
  IntKind.i64 (IntKind.wrap IntKind.i64 (cellI (bCells x) (k + 1))) (8 : Int))) (IntKind.wrap IntKind.i64 (cellI (bCells x) (k + 2)))))) /\ ((m = m) /\ ((ByteArray.mk #[] =
  ByteArray.mk #[]) /\ (((0 : Int) = (0 : Int)) /\ (((0 : Int) = (0 : Int)) /\ (((0 : Int) = (0 : Int)) /\ (((0 : Int) = (0 : Int)) /\ (((0 : Int) = (0 : Int)) /\ (((0 :
  Int) = (0 : Int)) /\ ((Eq (α := List Value) (bCells x) (bCells x)) /\ ((Plain (bCells x)) /\ ((Eq (α := List Value) (gC enG j.1) (List.take (List.length l * 4) (List.drop
  0 (gC enG l)) ++ [Value.int IntKind.i64 (↑(zT (Row.mk (List.take ((Int.toNat (IntKind.wrap IntKind.i64 ((9 : Int) + ior IntKind.i64 (ior IntKind.i64 (ishl IntKind.i64
  (IntKind.wrap IntKind.i64 (cellI (bCells x) (k + 0))) (16 : Int)) (ishl IntKind.i64 (IntKind.wrap IntKind.i64 (cellI (bCells x) (k + 1))) (8 : Int))) (IntKind.wrap
  IntKind.i64 (cellI (bCells x) (k + 2))))) - 0) * 1) (List.drop (k + 0) (bCells x))) true (Ob.cells true))) : Int), Value.int IntKind.i64 (↑(zG (Row.mk (List.take
  ((Int.toNat (IntKind.wrap IntKind.i64 ((9 : Int) + ior IntKind.i64 (ior IntKind.i64 (ishl IntKind.i64 (IntKind.wrap IntKind.i64 (cellI (bCells x) (k + 0))) (16 : Int))
  (ishl IntKind.i64 (IntKind.wrap IntKind.i64 (cellI (bCells x) (k + 1))) (8 : Int))) (IntKind.wrap IntKind.i64 (cellI (bCells x) (k + 2))))) - 0) * 1) (List.drop (k + 0)
  (bCells x))) true (Ob.cells true))) : Int), Value.int IntKind.i64 (↑(zS (Row.mk (List.take ((Int.toNat (IntKind.wrap IntKind.i64 ((9 : Int) + ior IntKind.i64 (ior
  IntKind.i64 (ishl IntKind.i64 (IntKind.wrap IntKind.i64 (cellI (bCells x) (k + 0))) (16 : Int)) (ishl IntKind.i64 (IntKind.wrap IntKind.i64 (cellI (bCells x) (k + 1))) (8
  : Int))) (IntKind.wrap IntKind.i64 (cellI (bCells x) (k + 2))))) - 0) * 1) (List.drop (k + 0) (bCells x))) true (Ob.cells true))) : Int), Value.slice (some (Addr.mk (gCode
  (shown (bCells (List.drop 9 (dB (Row.mk (List.take ((Int.toNat (IntKind.wrap IntKind.i64 ((9 : Int) + ior IntKind.i64 (ior IntKind.i64 (ishl IntKind.i64 (IntKind.wrap
  IntKind.i64 (cellI (bCells x) (k + 0))) (16 : Int)) (ishl IntKind.i64 (IntKind.wrap IntKind.i64 (cellI (bCells x) (k + 1))) (8 : Int))) (IntKind.wrap IntKind.i64 (cellI
  (bCells x) (k + 2))))) - 0) * 1) (List.drop (k + 0) (bCells x))) true (Ob.cells true))))) 0 (Int.toNat (IntKind.wrap IntKind.i64 ((9 : Int) + ior IntKind.i64 (ior
  IntKind.i64 (ishl IntKind.i64 (IntKind.wrap IntKind.i64 (cellI (bCells x) (k + 0))) (16 : Int)) (ishl IntKind.i64 (IntKind.wrap IntKind.i64 (cellI (bCells x) (k + 1))) (8
  : Int))) (IntKind.wrap IntKind.i64 (cellI (bCells x) (k + 2))))) - 0 - 9) 1)) 0 (some 0))) (Int.toNat (IntKind.wrap IntKind.i64 ((9 : Int) + ior IntKind.i64 (ior
  IntKind.i64 (ishl IntKind.i64 (IntKind.wrap IntKind.i64 (cellI (bCells x) (k + 0))) (16 : Int)) (ishl IntKind.i64 (IntKind.wrap IntKind.i64 (cellI (bCells x) (k + 1))) (8
  : Int))) (IntKind.wrap IntKind.i64 (cellI (bCells x) (k + 2))))) - 0 - 9) 1])) /\ ((Plain (gC enG j.1)) /\ True))))))))))))))))))))) False) False) False)) False))
  False)))))))))))))))) False)) False)) False) (∃ y : Se, (((y.2 <= List.length x /\ (k0 <= y.2 /\ run m (List.length x) (List.drop k0 x) = (y.1, y.2 - k0, false)))) /\ ((0
  = 0) /\ ((0 = 0) /\ ((List.length y.1 = List.length l) /\ ((y.2 = k) /\ ((List.length x - y.2 = List.length x - k) /\ ((m = m) /\ ((ByteArray.mk #[] = ByteArray.mk #[]) /\
  (((0 : Int) = (0 : Int)) /\ (((0 : Int) = (0 : Int)) /\ (((0 : Int) = (0 : Int)) /\ (((0 : Int) = (0 : Int)) /\ (((0 : Int) = (0 : Int)) /\ (((0 : Int) = (0 : Int)) /\
  ((Eq (α := List Value) (bCells x) (bCells x)) /\ ((Plain (bCells x)) /\ ((Eq (α := List Value) (gC enG y.1) (gC enG l)) /\ ((Plain (gC enG y.1)) /\
  True)))))))))))))))))))) := by kernel_rfl
theorem run_fuel (m : Int) : ∀ (n : Nat) (x : List UInt8), x.length ≤ n → ∀ n', x.length ≤ n' → run m n x = run m n' x := by
  intro n
  induction n with
  | zero =>
    intro x hx n' _
    have : x = [] := List.eq_nil_of_length_eq_zero (by omega)
    subst this
    cases n' <;> simp [run]
  | succ n ih =>
    intro x hx n' hx'
    cases n' with
    | zero =>
      have : x = [] := List.eq_nil_of_length_eq_zero (by omega)
      subst this; simp [run]
    | succ n' =>
      simp only [run]
      by_cases h9 : x.length < 9
      · rw [if_pos h9, if_pos h9]
      · have := ih (x.drop (9 + lenF x)) (by rw [List.length_drop]; omega) n' (by rw [List.length_drop]; omega)
        rw [this]
theorem run_step (m : Int) {n : Nat} {x : List UInt8} (hx : x.length ≤ n) : run m n x = if x.length < 9 then ([], 0, false) else if (lenF x : Int) > m then ([], 0, true) else if x.length < 9 + lenF x then ([], 0, false) else
    (fr1 x :: (run m n (x.drop (9 + lenF x))).1, 9 + lenF x + (run m n (x.drop (9 + lenF x))).2.1, (run m n (x.drop (9 + lenF x))).2.2) := by
  rw [run_fuel m n x hx (n + 1) (by omega)]
  rfl
theorem bt_drop (x : List UInt8) (k i : Nat) : bt (x.drop k) i = bt x (k + i) := by
  unfold bt; rw [List.getD_eq_getElem?_getD, List.getElem?_drop, ← List.getD_eq_getElem?_getD]
theorem bt_take {x : List UInt8} {k i : Nat} (h : i < k) : bt (x.take k) i = bt x i := by
  unfold bt; rw [List.getD_eq_getElem?_getD, List.getElem?_take, if_pos h, ← List.getD_eq_getElem?_getD]
theorem enG_k (a : Bf) : (enG a).length = 4 := rfl
theorem enG_pl (l : List Bf) : Plain (gC enG l) := gC_plain (fun a v hv => by
  unfold enG at hv
  simp only [List.mem_cons, List.mem_nil_iff, or_false] at hv
  rcases hv with rfl | rfl | rfl | rfl <;> rfl) l
theorem bCells_g (l : List UInt8) : gAll (bCells l) = true := by
  unfold gAll; rw [List.all_eq_true]; intro v hv
  obtain ⟨b, _, rfl⟩ := List.mem_map.1 hv; rfl
def InvE (g : Ge) (s : Se) : Prop := s.2 ≤ g.x.length ∧ g.k ≤ s.2 ∧ s.1.length ≤ s.2 ∧ run g.m g.x.length (g.x.drop g.k) = (s.1 ++ (run g.m g.x.length (g.x.drop s.2)).1, (s.2 - g.k) + (run g.m g.x.length (g.x.drop s.2)).2.1, (run g.m g.x.length (g.x.drop s.2)).2.2)
theorem len_lt (x : List UInt8) : lenF x < 16777216 := by have := bt_lt x 0; have := bt_lt x 1; have := bt_lt x 2; unfold lenF; omega
theorem tF_ok : ∀ x ∈ tF, EntOk Tryz.prog x := all_cons eDec_ok (all_nil)
theorem E_piece : PieceOk EtF 3 (48, pE, specE) := by
  refine piece_loop mixed (calls_envT tF_ok) (lok_envT _ _) lm_none (n := 60) (by kernel_rfl) (fun g : Ge => (([], g.k) : Se)) (fun g s => InvE g s) (fun g s => g.x.length - s.2) (sl := fun _ s => slE s.1) (rl := fun g s => rlE g.x g.m s.1 s.2) (fun g hg => ⟨hg.2, Nat.le_refl _, Nat.zero_le _, by simp⟩) (fun g s hg hi => ?_)
  obtain ⟨x, m, k0⟩ := g
  obtain ⟨l, k⟩ := s
  have hg : x.length ≤ 16777216 := hg.1
  obtain ⟨h1, h0, h2, h3⟩ := hi
  simp only at h0 h1 h2 h3
  refine (E_round 0 x m l k k0 _ _).mpr ?_
  have hy : (x.drop k).length = x.length - k := List.length_drop
  have hst := run_step m (n := x.length) (x := x.drop k) (by omega)
  refine br_if (fun h9 => ?_) (fun h9 => ?_)
  · have h9 : 9 ≤ x.length - k := by have : (9 : Int) ≤ ((x.length - k : Nat) : Int) := h9; omega
    rw [if_neg (by omega)] at hst
    have at' : ∀ i, i < 9 → ((bCells x)[k + i]? = some (Value.int IntKind.u8 (cellI (bCells x) (k + i)))) := fun i hi => bCells_at (by omega)
    have a0 : (bCells x)[k]? = some (Value.int IntKind.u8 (cellI (bCells x) k)) := bCells_at (by omega)
    have hl : lenF (x.drop k) = bt x k * 65536 + bt x (k + 1) * 256 + bt x (k + 2) := by unfold lenF; rw [bt_drop, bt_drop, bt_drop, Nat.add_zero]
    have hlt := len_lt (x.drop k)
    have hn3 := num3 (bt x k) (bt x (k + 1)) (bt x (k + 2)) (bt_lt _ _) (bt_lt _ _) (bt_lt _ _)
    rw [← hl] at hn3
    simp (disch := omega) only [ofNat_eq, toNat_cast, Nat.zero_add, Nat.add_zero, Nat.mul_one, List.drop_zero, bCells_len, bCells_drop, bCells_take, bCells_app, bCells_one, bCells_plain, List.length_replicate, List.length_append, List.length_take, List.length_drop, List.take_length, and_true, true_and, and_self, decide_true, List.length_nil, List.length_cons, Nat.sub_zero, dB_mk, dB_ro, List.take_zero, a0, at' 1, at' 2, bt_c, hn3, brD]
    generalize hL : lenF (x.drop k) = L at *
    have w9 : IntKind.i64.wrap (9 + (L : Int)) = ((9 + L : Nat) : Int) := by rw [wr64_id (by unfold I64; omega)]; omega
    simp only [w9, toNat_cast]
    refine br_if (fun hm => ?_) (fun hm => br_if (fun hs => ?_) (fun hs => ?_))
    · rw [if_pos hm] at hst
      rw [hst] at h3
      refine ⟨(l, 0), ⟨k - k0, ?_⟩, rfl, rfl, enG_pl _⟩
      rw [h3]; simp
    · rw [if_neg hm, if_pos (by omega)] at hst
      rw [hst] at h3
      refine ⟨(l, k), ⟨h1, h0, ?_⟩, rfl, rfl, rfl, rfl, enG_pl _⟩
      rw [h3]; simp
    · have hs' : 9 + L ≤ x.length - k := by omega
      rw [if_neg hm, if_neg (by omega)] at hst
      rw [hst] at h3
      have ht : (List.take (9 + L) (List.drop k x)).length = 9 + L := by rw [List.length_take]; omega
      have hp : (List.drop 9 (List.take (9 + L) (List.drop k x))).length = L := by rw [List.length_drop, ht]; omega
      have hsh : shown (bCells (List.drop 9 (List.take (9 + L) (List.drop k x)))) 0 (9 + L - 9) 1 = bCells (List.drop 9 (List.take (9 + L) (List.drop k x))) := by
        unfold shown; rw [List.drop_zero, List.take_of_length_le (by rw [bCells_len, hp]; omega)]
      have hdd : List.drop (9 + L) (List.drop k x) = List.drop (k + (9 + L)) x := by rw [List.drop_drop]
      have tk : List.take (l.length * 4) (gC enG l) = gC enG l := List.take_of_length_le (by rw [gC_len enG_k]; omega)
      refine br_dec (by omega) ⟨⟨by omega, isB_mk _ _ ht.symm, by omega, by omega⟩, br_dec (by omega) ⟨?_, br_dec (by rw [gC_len enG_k]; omega) (br_dec (by omega) ⟨(l ++ [fr1 (List.drop k x)], k + (9 + L)), ⟨by simp only; omega, by simp only; omega, by simp only [List.length_append, List.length_cons, List.length_nil]; omega, ?_⟩, by simp only; omega, by simp, rfl, by simp only; omega, ?_, enG_pl _⟩)⟩⟩
      · rw [hsh]; exact bCells_g _
      · simp only
        rw [h3, hdd]
        generalize run m x.length (List.drop (k + (9 + L)) x) = r
        obtain ⟨r1, r2, r3⟩ := r
        simp only [List.append_assoc, List.singleton_append, Prod.mk.injEq, true_and, and_true]
        omega
      · simp only
        rw [← gC_app, tk, hsh, z_T, z_G, z_S]
        have e3 : bt (List.take (9 + L) (List.drop k x)) 3 = bt (List.drop k x) 3 := bt_take (by omega)
        have e4 : bt (List.take (9 + L) (List.drop k x)) 4 = bt (List.drop k x) 4 := bt_take (by omega)
        have es : strF (List.take (9 + L) (List.drop k x)) = strF (List.drop k x) := by
          unfold strF
          rw [bt_take (by omega), bt_take (by omega), bt_take (by omega), bt_take (by omega)]
        have hf : fr1 (List.drop k x) = ⟨bt (List.drop k x) 3, bt (List.drop k x) 4, strF (List.drop k x), List.drop 9 (List.take (9 + L) (List.drop k x))⟩ := by unfold fr1; rw [hL]
        rw [e3, e4, es, hf]
        have : (9 + L - 9) = (List.drop 9 (List.take (9 + L) (List.drop k x))).length := by omega
        rw [this]
        rfl
  · have h9 : x.length - k < 9 := by have : ¬ (9 : Int) ≤ ((x.length - k : Nat) : Int) := h9; omega
    rw [if_pos (by omega)] at hst
    rw [hst] at h3
    simp only [ofNat_eq, toNat_cast, Nat.zero_add, Nat.add_zero, Nat.mul_one, List.drop_zero, bCells_len, bCells_drop, bCells_take, bCells_app, bCells_one, bCells_plain, List.length_replicate, List.length_append, List.length_take, List.length_drop, List.take_length, and_true, true_and, and_self, decide_true, List.length_nil, List.length_cons, Nat.sub_zero, dB_mk, dB_ro, List.take_zero]
    refine ⟨(l, k), ⟨h1, h0, ?_⟩, rfl, rfl, rfl, rfl, enG_pl _⟩
    rw [h3]; simp
end Go.Proofs.YtcallecdjebojaaGreat.fe
