/- ConnPings: each PING is answered by its own bytes, in order; one that answers isn't. -/
import Derived.Test.YtcallecdjebojaaGreatSz9
import Derived.Test.YtcallecdjebojaaGreatRows
import Derived.Test.YtcallecdjebojaaGreatLcpO
import Derived.Test.YtcallecdjebojaaGreatLbools
import Derived.Test.YtcallecdjebojaaGreatLbkS
set_option maxRecDepth 20000
set_option linter.unusedSimpArgs false
set_option linter.unusedVariables false
namespace Go.Proofs.YtcallecdjebojaaGreat.cp
open Go Go.Ev Go.Sy Go.RowKit Go.Proofs.YtcallecdjebojaaGreat.gl Go.Proofs.YtcallecdjebojaaGreat.tk
def enU (n : Nat) : List Value := [.int .u32 (n : Int)]
noncomputable def eRunsC : EntM := entC 3 fun a r => match a, r with
  | [], [] => some (True, .bool true, [])
  | _, _ => none
noncomputable def smB : Row → Row → Bool := sealV fun a b => decide (dB a = dB b)
noncomputable def eSmB : EntM := entC 15 fun a r => match a, r with
  | [.slice (some ⟨0, 0, none⟩) n 1, .slice (some ⟨1, 0, none⟩) m 1], [r0, r1] => some (IsB r0 n ∧ IsB r1 m ∧ n ≤ maxLen, .bool (smB r0 r1), [])
  | _, _ => none
noncomputable def tCp : List EntM := [eBg, eRunsC, eSmB, eOut]
noncomputable abbrev ECp : Env := envTc Tryz.prog tCp
structure GP where
  l : List Nat
  a : List Bool
structure PS where
  i : Nat
  w : List UInt8
  x : List UInt8
  k : Nat
  f : Int
  b0 : Int
  b1 : Int
  b2 : Int
  b3 : Int
def pP : List Nat := [0, 1, 0, 1, 1, 1, 1]
def cnP (k n : Nat) : Row := ⟨[.bool true, .int .i64 2, .int .i64 65535, .int .i64 65536, .int .i64 4096, .int .i64 2147483647, .int .i64 65535, .int .i64 16384, .int .i64 2147483647, .slice (some ⟨3, k, none⟩) n 1, .pointer (some ⟨4, 0, none⟩), .pointer (some ⟨6, 0, none⟩), .pointer (some ⟨7, 0, none⟩), .int .i64 65535, .int .i64 65535, .slice none 0 0, .slice none 0 0, .int .i64 0, .int .i64 1, .bool true, .bool false, .bool false, .bool false, .bool false, .int .i64 0, .slice none 0 0, .bool false, .slice none 0 0], false, .cells false⟩
def slP (g : GP) (i n : Nat) : List (Nat × Value) := [(0, .slice (some ⟨0, 0, none⟩) g.l.length 1), (1, .slice (some ⟨1, 0, none⟩) g.a.length 1), (5, .pointer (some ⟨2, 0, none⟩)), (6, .slice (some ⟨8, 0, none⟩) n 1), (7, .int .i64 (i : Nat))]
noncomputable def rsP : List (Nat × Row) := [(6, unB 9), (7, pkB 10), (9, tbB), (10, tbB)]
noncomputable def rlP (g : GP) (s : PS) : List (Nat × Row) := [(0, gRo enU g.l), (1, gRo enB g.a), (2, cnP s.k s.w.length), (3, bOwn s.x), (4, rdB 5 17 0), (5, ⟨[.int .u8 0, .int .u8 0, .int .u8 8, .int .u8 6, .int .u8 s.f, .int .u8 0, .int .u8 0, .int .u8 0, .int .u8 0, .int .u8 s.b0, .int .u8 s.b1, .int .u8 s.b2, .int .u8 s.b3, .int .u8 1, .int .u8 2, .int .u8 3, .int .u8 4], false, .cells true⟩), (8, bOwn s.w)] ++ rsP
noncomputable def rlP0 (g : GP) : List (Nat × Row) := [(0, gRo enU g.l), (1, gRo enB g.a), (2, cnP 36 0), (3, quB), (4, rdB 5 9 0), (5, lfB), (8, bOwn [])] ++ rsP
structure PX where
  w : List UInt8
  x : List UInt8
  k : Nat
  y : List Value
  j : Nat
def okS (s : PX) : Prop := s.x.drop s.k = s.w ∧ s.k ≤ s.x.length ∧ s.x.length ≤ 2000 ∧ Plain s.y
noncomputable def wsP (g : GP) : List (Gate PX) := [⟨.exit 0, okS, fun s => [(5, .pointer (some ⟨2, 0, none⟩)), (6, .slice (some ⟨8, 0, none⟩) s.w.length 1)], fun s => [(0, gRo enU g.l), (1, gRo enB g.a), (2, cnP s.k s.w.length), (3, bOwn s.x), (4, rdB 5 s.j 0), (5, ⟨s.y, false, .cells true⟩), (8, bOwn s.w)] ++ rsP, 11⟩]
def okGP (g : GP) : Prop := g.l.length ≤ maxLen ∧ g.a.length ≤ maxLen ∧ ∀ n ∈ g.l, n < 4294967296
noncomputable def specP : Sy.Spec := specOf 2 11 83 okGP (fun g => slP g 0 0) rlP0 wsP
noncomputable def mP := mOf [(7, pP, specP)]
theorem P0_round (g : GP) (s : PS) (Inv : PS → Prop) (m : PS → Nat) : mev ECp noM 400 7 (0 :: pP) false (codeOf Tryz.prog 7 (0 :: pP)) ⟨mkOv (slP g 0 0), 83, []⟩ none ⟨mkR (rlP0 g), 11⟩ (roundK 2 11 83 Inv m (fun s : PS => slP g s.i s.w.length) (rlP g) (wsP g) s) =
  (br (decide ((0 : Int) < Int.ofNat (List.length g.1))) (br (decide ((0 : Int) <= (↑0 : Int) /\ (0 : Int) < (↑(List.length g.1) : Int))) ((Eq (α := Option Value) ((gC enU
  g.1)[0]?) (some (Value.int IntKind.u32 (cellI (gC enU g.1) 0)))) /\ (br (decide ((0 : Int) <= (↑0 : Int) /\ (0 : Int) < (↑(List.length g.1) : Int))) ((Eq (α := Option
  Value) ((gC enU g.1)[0]?) (some (Value.int IntKind.u32 (cellI (gC enU g.1) 0)))) /\ (br (decide ((0 : Int) <= (↑0 : Int) /\ (0 : Int) < (↑(List.length g.1) : Int))) ((Eq
  (α := Option Value) ((gC enU g.1)[0]?) (some (Value.int IntKind.u32 (cellI (gC enU g.1) 0)))) /\ (br (decide ((0 : Int) <= (↑0 : Int) /\ (0 : Int) < (↑(List.length g.1) :
  Int))) ((Eq (α := Option Value) ((gC enU g.1)[0]?) (some (Value.int IntKind.u32 (cellI (gC enU g.1) 0)))) /\ ((Eq (α := Option Value) ((gC enU g.1)[0]?) (some (Value.int
  IntKind.u32 (cellI (gC enU g.1) 0)))) /\ (br (veq 20 (Value.int IntKind.u32 (cellI (gC enU g.1) 0)) (Value.int IntKind.u32 (cellI (gC enU g.1) 0))) (br (veq 20 (Value.int
  IntKind.u8 (IntKind.wrap IntKind.u8 (cellI (gC enU g.1) 0))) (Value.int IntKind.u8 (IntKind.wrap IntKind.u8 (cellI (gC enU g.1) 0)))) ((Eq (α := Option Value) ((gC enU
  g.1)[0]?) (some (Value.int IntKind.u32 (cellI (gC enU g.1) 0)))) /\ (br (veq 20 (Value.int IntKind.u32 (cellI (gC enU g.1) 0)) (Value.int IntKind.u32 (cellI (gC enU g.1)
  0))) (br (veq 20 (Value.int IntKind.u8 (IntKind.wrap IntKind.u8 (ishr IntKind.u32 (cellI (gC enU g.1) 0) (8 : Int)))) (Value.int IntKind.u8 (IntKind.wrap IntKind.u8 (ishr
  IntKind.u32 (cellI (gC enU g.1) 0) (8 : Int))))) ((Eq (α := Option Value) ((gC enU g.1)[0]?) (some (Value.int IntKind.u32 (cellI (gC enU g.1) 0)))) /\ (br (veq 20
  (Value.int IntKind.u32 (cellI (gC enU g.1) 0)) (Value.int IntKind.u32 (cellI (gC enU g.1) 0))) (br (veq 20 (Value.int IntKind.u8 (IntKind.wrap IntKind.u8 (ishr IntKind.u32
  (cellI (gC enU g.1) 0) (16 : Int)))) (Value.int IntKind.u8 (IntKind.wrap IntKind.u8 (ishr IntKind.u32 (cellI (gC enU g.1) 0) (16 : Int))))) ((Eq (α := Option Value) ((gC
  enU g.1)[0]?) (some (Value.int IntKind.u32 (cellI (gC enU g.1) 0)))) /\ (br (veq 20 (Value.int IntKind.u32 (cellI (gC enU g.1) 0)) (Value.int IntKind.u32 (cellI (gC enU
  g.1) 0))) (br (veq 20 (Value.int IntKind.u8 (IntKind.wrap IntKind.u8 (ishr IntKind.u32 (cellI (gC enU g.1) 0) (24 : Int)))) (Value.int IntKind.u8 (IntKind.wrap IntKind.u8
  (ishr IntKind.u32 (cellI (gC enU g.1) 0) (24 : Int))))) (br (decide ((0 : Int) < Int.ofNat (List.length g.2))) (br (decide ((0 : Int) <= (↑0 : Int) /\ (0 : Int) <
  (↑(List.length g.2) : Int))) ((Eq (α := Option Value) ((gC enB g.2)[0]?) (some (Value.bool (cellB (gC enB g.2) 0)))) /\ (br (cellB (gC enB g.2) 0) ((Eq (α := Option Value)
  (some (Value.int IntKind.u8 (0 : Int))) (some (Value.int IntKind.u8 (cellI [Value.int IntKind.u8 (0 : Int), Value.int IntKind.u8 (0 : Int), Value.int IntKind.u8 (8 : Int),
  Value.int IntKind.u8 (6 : Int), Value.int IntKind.u8 (1 : Int), Value.int IntKind.u8 (0 : Int), Value.int IntKind.u8 (0 : Int), Value.int IntKind.u8 (0 : Int), Value.int
  IntKind.u8 (0 : Int), Value.int IntKind.u8 (IntKind.wrap IntKind.u8 (cellI (gC enU g.1) 0)), Value.int IntKind.u8 (IntKind.wrap IntKind.u8 (ishr IntKind.u32 (cellI (gC enU
  g.1) 0) (8 : Int))), Value.int IntKind.u8 (IntKind.wrap IntKind.u8 (ishr IntKind.u32 (cellI (gC enU g.1) 0) (16 : Int))), Value.int IntKind.u8 (IntKind.wrap IntKind.u8
  (ishr IntKind.u32 (cellI (gC enU g.1) 0) (24 : Int))), Value.int IntKind.u8 (1 : Int), Value.int IntKind.u8 (2 : Int), Value.int IntKind.u8 (3 : Int), Value.int IntKind.u8
  (4 : Int)] 0)))) /\ ((Eq (α := Option Value) (some (Value.int IntKind.u8 (0 : Int))) (some (Value.int IntKind.u8 (cellI [Value.int IntKind.u8 (0 : Int), Value.int
  IntKind.u8 (0 : Int), Value.int IntKind.u8 (8 : Int), Value.int IntKind.u8 (6 : Int), Value.int IntKind.u8 (1 : Int), Value.int IntKind.u8 (0 : Int), Value.int IntKind.u8
  (0 : Int), Value.int IntKind.u8 (0 : Int), Value.int IntKind.u8 (0 : Int), Value.int IntKind.u8 (IntKind.wrap IntKind.u8 (cellI (gC enU g.1) 0)), Value.int IntKind.u8
  (IntKind.wrap IntKind.u8 (ishr IntKind.u32 (cellI (gC enU g.1) 0) (8 : Int))), Value.int IntKind.u8 (IntKind.wrap IntKind.u8 (ishr IntKind.u32 (cellI (gC enU g.1) 0) (16 :
  Int))), Value.int IntKind.u8 (IntKind.wrap IntKind.u8 (ishr IntKind.u32 (cellI (gC enU g.1) 0) (24 : Int))), Value.int IntKind.u8 (1 : Int), Value.int IntKind.u8 (2 :
  Int), Value.int IntKind.u8 (3 : Int), Value.int IntKind.u8 (4 : Int)] 1)))) /\ ((Eq (α := Option Value) (some (Value.int IntKind.u8 (8 : Int))) (some (Value.int IntKind.u8
  (cellI [Value.int IntKind.u8 (0 : Int), Value.int IntKind.u8 (0 : Int), Value.int IntKind.u8 (8 : Int), Value.int IntKind.u8 (6 : Int), Value.int IntKind.u8 (1 : Int),
  Value.int IntKind.u8 (0 : Int), Value.int IntKind.u8 (0 : Int), Value.int IntKind.u8 (0 : Int), Value.int IntKind.u8 (0 : Int), Value.int IntKind.u8 (IntKind.wrap
  IntKind.u8 (cellI (gC enU g.1) 0)), Value.int IntKind.u8 (IntKind.wrap IntKind.u8 (ishr IntKind.u32 (cellI (gC enU g.1) 0) (8 : Int))), Value.int IntKind.u8 (IntKind.wrap
  IntKind.u8 (ishr IntKind.u32 (cellI (gC enU g.1) 0) (16 : Int))), Value.int IntKind.u8 (IntKind.wrap IntKind.u8 (ishr IntKind.u32 (cellI (gC enU g.1) 0) (24 : Int))),
  Value.int IntKind.u8 (1 : Int), Value.int IntKind.u8 (2 : Int), Value.int IntKind.u8 (3 : Int), Value.int IntKind.u8 (4 : Int)] 2)))) /\ ((Eq (α := Option Value) (some
  (Value.int IntKind.u8 (0 : Int))) (some (Value.int IntKind.u8 (cellI [Value.int IntKind.u8 (0 : Int), Value.int IntKind.u8 (0 : Int), Value.int IntKind.u8 (8 : Int),
  Value.int IntKind.u8 (6 : Int), Value.int IntKind.u8 (1 : Int), Value.int IntKind.u8 (0 : Int), Value.int IntKind.u8 (0 : Int), Value.int IntKind.u8 (0 : Int), Value.int
  IntKind.u8 (0 : Int), Value.int IntKind.u8 (IntKind.wrap IntKind.u8 (cellI (gC enU g.1) 0)), Value.int IntKind.u8 (IntKind.wrap IntKind.u8 (ishr IntKind.u32 (cellI (gC enU
  g.1) 0) (8 : Int))), Value.int IntKind.u8 (IntKind.wrap IntKind.u8 (ishr IntKind.u32 (cellI (gC enU g.1) 0) (16 : Int))), Value.int IntKind.u8 (IntKind.wrap IntKind.u8
  (ishr IntKind.u32 (cellI (gC enU g.1) 0) (24 : Int))), Value.int IntKind.u8 (1 : Int), Value.int IntKind.u8 (2 : Int), Value.int IntKind.u8 (3 : Int), Value.int IntKind.u8
  (4 : Int)] 0)))) /\ ((Eq (α := Option Value) (some (Value.int IntKind.u8 (0 : Int))) (some (Value.int IntKind.u8 (cellI [Value.int IntKind.u8 (0 : Int), Value.int
  IntKind.u8 (0 : Int), Value.int IntKind.u8 (8 : Int), Value.int IntKind.u8 (6 : Int), Value.int IntKind.u8 (1 : Int), Value.int IntKind.u8 (0 : Int), Value.int IntKind.u8
  (0 : Int), Value.int IntKind.u8 (0 : Int), Value.int IntKind.u8 (0 : Int), Value.int IntKind.u8 (IntKind.wrap IntKind.u8 (cellI (gC enU g.1) 0)), Value.int IntKind.u8
  (IntKind.wrap IntKind.u8 (ishr IntKind.u32 (cellI (gC enU g.1) 0) (8 : Int))), Value.int IntKind.u8 (IntKind.wrap IntKind.u8 (ishr IntKind.u32 (cellI (gC enU g.1) 0) (16 :
  Int))), Value.int IntKind.u8 (IntKind.wrap IntKind.u8 (ishr IntKind.u32 (cellI (gC enU g.1) 0) (24 : Int))), Value.int IntKind.u8 (1 : Int), Value.int IntKind.u8 (2 :
  Int), Value.int IntKind.u8 (3 : Int), Value.int IntKind.u8 (4 : Int)] 1)))) /\ ((Eq (α := Option Value) (some (Value.int IntKind.u8 (8 : Int))) (some (Value.int IntKind.u8
  (cellI [Value.int IntKind.u8 (0 : Int), Value.int IntKind.u8 (0 : Int), Value.int IntKind.u8 (8 : Int), Value.int IntKind.u8 (6 : Int), Value.int IntKind.u8 (1 : Int),
  Value.int IntKind.u8 (0 : Int), Value.int IntKind.u8 (0 : Int), Value.int IntKind.u8 (0 : Int), Value.int IntKind.u8 (0 : Int), Value.int IntKind.u8 (IntKind.wrap
  IntKind.u8 (cellI (gC enU g.1) 0)), Value.int IntKind.u8 (IntKind.wrap IntKind.u8 (ishr IntKind.u32 (cellI (gC enU g.1) 0) (8 : Int))), Value.int IntKind.u8 (IntKind.wrap
  IntKind.u8 (ishr IntKind.u32 (cellI (gC enU g.1) 0) (16 : Int))), Value.int IntKind.u8 (IntKind.wrap IntKind.u8 (ishr IntKind.u32 (cellI (gC enU g.1) 0) (24 : Int))),
  Value.int IntKind.u8 (1 : Int), Value.int IntKind.u8 (2 : Int), Value.int IntKind.u8 (3 : Int), Value.int IntKind.u8 (4 : Int)] 2)))) /\ ((Eq (α := Option Value) (some
  (Value.int IntKind.u8 (0 : Int))) (some (Value.int IntKind.u8 (cellI [Value.int IntKind.u8 (0 : Int), Value.int IntKind.u8 (0 : Int), Value.int IntKind.u8 (8 : Int),
  Value.int IntKind.u8 (6 : Int), Value.int IntKind.u8 (1 : Int), Value.int IntKind.u8 (0 : Int), Value.int IntKind.u8 (0 : Int), Value.int IntKind.u8 (0 : Int), Value.int
  IntKind.u8 (0 : Int), Value.int IntKind.u8 (IntKind.wrap IntKind.u8 (cellI (gC enU g.1) 0)), Value.int IntKind.u8 (IntKind.wrap IntKind.u8 (ishr IntKind.u32 (cellI (gC enU
  g.1) 0) (8 : Int))), Value.int IntKind.u8 (IntKind.wrap IntKind.u8 (ishr IntKind.u32 (cellI (gC enU g.1) 0) (16 : Int))), Value.int IntKind.u8 (IntKind.wrap IntKind.u8
  (ishr IntKind.u32 (cellI (gC enU g.1) 0) (24 : Int))), Value.int IntKind.u8 (1 : Int), Value.int IntKind.u8 (2 : Int), Value.int IntKind.u8 (3 : Int), Value.int IntKind.u8
  (4 : Int)] 5)))) /\ ((Eq (α := Option Value) (some (Value.int IntKind.u8 (0 : Int))) (some (Value.int IntKind.u8 (cellI [Value.int IntKind.u8 (0 : Int), Value.int
  IntKind.u8 (0 : Int), Value.int IntKind.u8 (8 : Int), Value.int IntKind.u8 (6 : Int), Value.int IntKind.u8 (1 : Int), Value.int IntKind.u8 (0 : Int), Value.int IntKind.u8
  (0 : Int), Value.int IntKind.u8 (0 : Int), Value.int IntKind.u8 (0 : Int), Value.int IntKind.u8 (IntKind.wrap IntKind.u8 (cellI (gC enU g.1) 0)), Value.int IntKind.u8
  (IntKind.wrap IntKind.u8 (ishr IntKind.u32 (cellI (gC enU g.1) 0) (8 : Int))), Value.int IntKind.u8 (IntKind.wrap IntKind.u8 (ishr IntKind.u32 (cellI (gC enU g.1) 0) (16 :
  Int))), Value.int IntKind.u8 (IntKind.wrap IntKind.u8 (ishr IntKind.u32 (cellI (gC enU g.1) 0) (24 : Int))), Value.int IntKind.u8 (1 : Int), Value.int IntKind.u8 (2 :
  Int), Value.int IntKind.u8 (3 : Int), Value.int IntKind.u8 (4 : Int)] 6)))) /\ ((Eq (α := Option Value) (some (Value.int IntKind.u8 (0 : Int))) (some (Value.int IntKind.u8
  (cellI [Value.int IntKind.u8 (0 : Int), Value.int IntKind.u8 (0 : Int), Value.int IntKind.u8 (8 : Int), Value.int IntKind.u8 (6 : Int), Value.int IntKind.u8 (1 : Int),
  Value.int IntKind.u8 (0 : Int), Value.int IntKind.u8 (0 : Int), Value.int IntKind.u8 (0 : Int), Value.int IntKind.u8 (0 : Int), Value.int IntKind.u8 (IntKind.wrap
  IntKind.u8 (cellI (gC enU g.1) 0)), Value.int IntKind.u8 (IntKind.wrap IntKind.u8 (ishr IntKind.u32 (cellI (gC enU g.1) 0) (8 : Int))), Value.int IntKind.u8 (IntKind.wrap
  IntKind.u8 (ishr IntKind.u32 (cellI (gC enU g.1) 0) (16 : Int))), Value.int IntKind.u8 (IntKind.wrap IntKind.u8 (ishr IntKind.u32 (cellI (gC enU g.1) 0) (24 : Int))),
  Value.int IntKind.u8 (1 : Int), Value.int IntKind.u8 (2 : Int), Value.int IntKind.u8 (3 : Int), Value.int IntKind.u8 (4 : Int)] 7)))) /\ ((Eq (α := Option Value) (some
  (Value.int IntKind.u8 (0 : Int))) (some (Value.int IntKind.u8 (cellI [Value.int IntKind.u8 (0 : Int), Value.int IntKind.u8 (0 : Int), Value.int IntKind.u8 (8 : Int),
  Value.int IntKind.u8 (6 : Int), Value.int IntKind.u8 (1 : Int), Value.int IntKind.u8 (0 : Int), Value.int IntKind.u8 (0 : Int), Value.int IntKind.u8 (0 : Int), Value.int
  IntKind.u8 (0 : Int), Value.int IntKind.u8 (IntKind.wrap IntKind.u8 (cellI (gC enU g.1) 0)), Value.int IntKind.u8 (IntKind.wrap IntKind.u8 (ishr IntKind.u32 (cellI (gC enU
  g.1) 0) (8 : Int))), Value.int IntKind.u8 (IntKind.wrap IntKind.u8 (ishr IntKind.u32 (cellI (gC enU g.1) 0) (16 : Int))), Value.int IntKind.u8 (IntKind.wrap IntKind.u8
  (ishr IntKind.u32 (cellI (gC enU g.1) 0) (24 : Int))), Value.int IntKind.u8 (1 : Int), Value.int IntKind.u8 (2 : Int), Value.int IntKind.u8 (3 : Int), Value.int IntKind.u8
  (4 : Int)] 8)))) /\ ((Eq (α := Option Value) (some (Value.int IntKind.u8 (0 : Int))) (some (Value.int IntKind.u8 (cellI [Value.int IntKind.u8 (0 : Int), Value.int
  IntKind.u8 (0 : Int), Value.int IntKind.u8 (8 : Int), Value.int IntKind.u8 (6 : Int), Value.int IntKind.u8 (1 : Int), Value.int IntKind.u8 (0 : Int), Value.int IntKind.u8
  (0 : Int), Value.int IntKind.u8 (0 : Int), Value.int IntKind.u8 (0 : Int), Value.int IntKind.u8 (IntKind.wrap IntKind.u8 (cellI (gC enU g.1) 0)), Value.int IntKind.u8
  (IntKind.wrap IntKind.u8 (ishr IntKind.u32 (cellI (gC enU g.1) 0) (8 : Int))), Value.int IntKind.u8 (IntKind.wrap IntKind.u8 (ishr IntKind.u32 (cellI (gC enU g.1) 0) (16 :
  Int))), Value.int IntKind.u8 (IntKind.wrap IntKind.u8 (ishr IntKind.u32 (cellI (gC enU g.1) 0) (24 : Int))), Value.int IntKind.u8 (1 : Int), Value.int IntKind.u8 (2 :
  Int), Value.int IntKind.u8 (3 : Int), Value.int IntKind.u8 (4 : Int)] 5)))) /\ ((Eq (α := Option Value) (some (Value.int IntKind.u8 (0 : Int))) (some (Value.int IntKind.u8
  (cellI [Value.int IntKind.u8 (0 : Int), Value.int IntKind.u8 (0 : Int), Value.int IntKind.u8 (8 : Int), Value.int IntKind.u8 (6 : Int), Value.int IntKind.u8 (1 : Int),
  Value.int IntKind.u8 (0 : Int), Value.int IntKind.u8 (0 : Int), Value.int IntKind.u8 (0 : Int), Value.int IntKind.u8 (0 : Int), Value.int IntKind.u8 (IntKind.wrap
  IntKind.u8 (cellI (gC enU g.1) 0)), Value.int IntKind.u8 (IntKind.wrap IntKind.u8 (ishr IntKind.u32 (cellI (gC enU g.1) 0) (8 : Int))), Value.int IntKind.u8 (IntKind.wrap
  IntKind.u8 (ishr IntKind.u32 (cellI (gC enU g.1) 0) (16 : Int))), Value.int IntKind.u8 (IntKind.wrap IntKind.u8 (ishr IntKind.u32 (cellI (gC enU g.1) 0) (24 : Int))),
  Value.int IntKind.u8 (1 : Int), Value.int IntKind.u8 (2 : Int), Value.int IntKind.u8 (3 : Int), Value.int IntKind.u8 (4 : Int)] 6)))) /\ ((Eq (α := Option Value) (some
  (Value.int IntKind.u8 (0 : Int))) (some (Value.int IntKind.u8 (cellI [Value.int IntKind.u8 (0 : Int), Value.int IntKind.u8 (0 : Int), Value.int IntKind.u8 (8 : Int),
  Value.int IntKind.u8 (6 : Int), Value.int IntKind.u8 (1 : Int), Value.int IntKind.u8 (0 : Int), Value.int IntKind.u8 (0 : Int), Value.int IntKind.u8 (0 : Int), Value.int
  IntKind.u8 (0 : Int), Value.int IntKind.u8 (IntKind.wrap IntKind.u8 (cellI (gC enU g.1) 0)), Value.int IntKind.u8 (IntKind.wrap IntKind.u8 (ishr IntKind.u32 (cellI (gC enU
  g.1) 0) (8 : Int))), Value.int IntKind.u8 (IntKind.wrap IntKind.u8 (ishr IntKind.u32 (cellI (gC enU g.1) 0) (16 : Int))), Value.int IntKind.u8 (IntKind.wrap IntKind.u8
  (ishr IntKind.u32 (cellI (gC enU g.1) 0) (24 : Int))), Value.int IntKind.u8 (1 : Int), Value.int IntKind.u8 (2 : Int), Value.int IntKind.u8 (3 : Int), Value.int IntKind.u8
  (4 : Int)] 7)))) /\ ((Eq (α := Option Value) (some (Value.int IntKind.u8 (0 : Int))) (some (Value.int IntKind.u8 (cellI [Value.int IntKind.u8 (0 : Int), Value.int
  IntKind.u8 (0 : Int), Value.int IntKind.u8 (8 : Int), Value.int IntKind.u8 (6 : Int), Value.int IntKind.u8 (1 : Int), Value.int IntKind.u8 (0 : Int), Value.int IntKind.u8
  (0 : Int), Value.int IntKind.u8 (0 : Int), Value.int IntKind.u8 (0 : Int), Value.int IntKind.u8 (IntKind.wrap IntKind.u8 (cellI (gC enU g.1) 0)), Value.int IntKind.u8
  (IntKind.wrap IntKind.u8 (ishr IntKind.u32 (cellI (gC enU g.1) 0) (8 : Int))), Value.int IntKind.u8 (IntKind.wrap IntKind.u8 (ishr IntKind.u32 (cellI (gC enU g.1) 0) (16 :
  Int))), Value.int IntKind.u8 (IntKind.wrap IntKind.u8 (ishr IntKind.u32 (cellI (gC enU g.1) 0) (24 : Int))), Value.int IntKind.u8 (1 : Int), Value.int IntKind.u8 (2 :
  Int), Value.int IntKind.u8 (3 : Int), Value.int IntKind.u8 (4 : Int)] 8)))) /\ ((Eq (α := Option Value) (some (Value.int IntKind.u8 (6 : Int))) (some (Value.int IntKind.u8
  (cellI [Value.int IntKind.u8 (0 : Int), Value.int IntKind.u8 (0 : Int), Value.int IntKind.u8 (8 : Int), Value.int IntKind.u8 (6 : Int), Value.int IntKind.u8 (1 : Int),
  Value.int IntKind.u8 (0 : Int), Value.int IntKind.u8 (0 : Int), Value.int IntKind.u8 (0 : Int), Value.int IntKind.u8 (0 : Int), Value.int IntKind.u8 (IntKind.wrap
  IntKind.u8 (cellI (gC enU g.1) 0)), Value.int IntKind.u8 (IntKind.wrap IntKind.u8 (ishr IntKind.u32 (cellI (gC enU g.1) 0) (8 : Int))), Value.int IntKind.u8 (IntKind.wrap
  IntKind.u8 (ishr IntKind.u32 (cellI (gC enU g.1) 0) (16 : Int))), Value.int IntKind.u8 (IntKind.wrap IntKind.u8 (ishr IntKind.u32 (cellI (gC enU g.1) 0) (24 : Int))),
  Value.int IntKind.u8 (1 : Int), Value.int IntKind.u8 (2 : Int), Value.int IntKind.u8 (3 : Int), Value.int IntKind.u8 (4 : Int)] 3)))) /\ ((Eq (α := Option Value) (some
  (Value.int IntKind.u8 (1 : Int))) (some (Value.int IntKind.u8 (cellI [Value.int IntKind.u8 (0 : Int), Value.int IntKind.u8 (0 : Int), Value.int IntKind.u8 (8 : Int),
  Value.int IntKind.u8 (6 : Int), Value.int IntKind.u8 (1 : Int), Value.int IntKind.u8 (0 : Int), Value.int IntKind.u8 (0 : Int), Value.int IntKind.u8 (0 : Int), Value.int
  IntKind.u8 (0 : Int), Value.int IntKind.u8 (IntKind.wrap IntKind.u8 (cellI (gC enU g.1) 0)), Value.int IntKind.u8 (IntKind.wrap IntKind.u8 (ishr IntKind.u32 (cellI (gC enU
  g.1) 0) (8 : Int))), Value.int IntKind.u8 (IntKind.wrap IntKind.u8 (ishr IntKind.u32 (cellI (gC enU g.1) 0) (16 : Int))), Value.int IntKind.u8 (IntKind.wrap IntKind.u8
  (ishr IntKind.u32 (cellI (gC enU g.1) 0) (24 : Int))), Value.int IntKind.u8 (1 : Int), Value.int IntKind.u8 (2 : Int), Value.int IntKind.u8 (3 : Int), Value.int IntKind.u8
  (4 : Int)] 4)))) /\ ((Eq (α := Option Value) (some (Value.int IntKind.u8 (6 : Int))) (some (Value.int IntKind.u8 (cellI [Value.int IntKind.u8 (0 : Int), Value.int
  IntKind.u8 (0 : Int), Value.int IntKind.u8 (8 : Int), Value.int IntKind.u8 (6 : Int), Value.int IntKind.u8 (1 : Int), Value.int IntKind.u8 (0 : Int), Value.int IntKind.u8
  (0 : Int), Value.int IntKind.u8 (0 : Int), Value.int IntKind.u8 (0 : Int), Value.int IntKind.u8 (IntKind.wrap IntKind.u8 (cellI (gC enU g.1) 0)), Value.int IntKind.u8
  (IntKind.wrap IntKind.u8 (ishr IntKind.u32 (cellI (gC enU g.1) 0) (8 : Int))), Value.int IntKind.u8 (IntKind.wrap IntKind.u8 (ishr IntKind.u32 (cellI (gC enU g.1) 0) (16 :
  Int))), Value.int IntKind.u8 (IntKind.wrap IntKind.u8 (ishr IntKind.u32 (cellI (gC enU g.1) 0) (24 : Int))), Value.int IntKind.u8 (1 : Int), Value.int IntKind.u8 (2 :
  Int), Value.int IntKind.u8 (3 : Int), Value.int IntKind.u8 (4 : Int)] 3)))) /\ ((Eq (α := Option Value) (some (Value.int IntKind.u8 (6 : Int))) (some (Value.int IntKind.u8
  (cellI [Value.int IntKind.u8 (0 : Int), Value.int IntKind.u8 (0 : Int), Value.int IntKind.u8 (8 : Int), Value.int IntKind.u8 (6 : Int), Value.int IntKind.u8 (1 : Int),
  Value.int IntKind.u8 (0 : Int), Value.int IntKind.u8 (0 : Int), Value.int IntKind.u8 (0 : Int), Value.int IntKind.u8 (0 : Int), Value.int IntKind.u8 (IntKind.wrap
  IntKind.u8 (cellI (gC enU g.1) 0)), Value.int IntKind.u8 (IntKind.wrap IntKind.u8 (ishr IntKind.u32 (cellI (gC enU g.1) 0) (8 : Int))), Value.int IntKind.u8 (IntKind.wrap
  IntKind.u8 (ishr IntKind.u32 (cellI (gC enU g.1) 0) (16 : Int))), Value.int IntKind.u8 (IntKind.wrap IntKind.u8 (ishr IntKind.u32 (cellI (gC enU g.1) 0) (24 : Int))),
  Value.int IntKind.u8 (1 : Int), Value.int IntKind.u8 (2 : Int), Value.int IntKind.u8 (3 : Int), Value.int IntKind.u8 (4 : Int)] 3)))) /\ ((Eq (α := Option Value) (some
  (Value.int IntKind.u8 (1 : Int))) (some (Value.int IntKind.u8 (cellI [Value.int IntKind.u8 (0 : Int), Value.int IntKind.u8 (0 : Int), Value.int IntKind.u8 (8 : Int),
  Value.int IntKind.u8 (6 : Int), Value.int IntKind.u8 (1 : Int), Value.int IntKind.u8 (0 : Int), Value.int IntKind.u8 (0 : Int), Value.int IntKind.u8 (0 : Int), Value.int
  IntKind.u8 (0 : Int), Value.int IntKind.u8 (IntKind.wrap IntKind.u8 (cellI (gC enU g.1) 0)), Value.int IntKind.u8 (IntKind.wrap IntKind.u8 (ishr IntKind.u32 (cellI (gC enU
  g.1) 0) (8 : Int))), Value.int IntKind.u8 (IntKind.wrap IntKind.u8 (ishr IntKind.u32 (cellI (gC enU g.1) 0) (16 : Int))), Value.int IntKind.u8 (IntKind.wrap IntKind.u8
  (ishr IntKind.u32 (cellI (gC enU g.1) 0) (24 : Int))), Value.int IntKind.u8 (1 : Int), Value.int IntKind.u8 (2 : Int), Value.int IntKind.u8 (3 : Int), Value.int IntKind.u8
  (4 : Int)] 4)))) /\ ((Eq (α := Option Value) (some (Value.int IntKind.u8 (1 : Int))) (some (Value.int IntKind.u8 (cellI [Value.int IntKind.u8 (0 : Int), Value.int
  IntKind.u8 (0 : Int), Value.int IntKind.u8 (8 : Int), Value.int IntKind.u8 (6 : Int), Value.int IntKind.u8 (1 : Int), Value.int IntKind.u8 (0 : Int), Value.int IntKind.u8
  (0 : Int), Value.int IntKind.u8 (0 : Int), Value.int IntKind.u8 (0 : Int), Value.int IntKind.u8 (IntKind.wrap IntKind.u8 (cellI (gC enU g.1) 0)), Value.int IntKind.u8
  (IntKind.wrap IntKind.u8 (ishr IntKind.u32 (cellI (gC enU g.1) 0) (8 : Int))), Value.int IntKind.u8 (IntKind.wrap IntKind.u8 (ishr IntKind.u32 (cellI (gC enU g.1) 0) (16 :
  Int))), Value.int IntKind.u8 (IntKind.wrap IntKind.u8 (ishr IntKind.u32 (cellI (gC enU g.1) 0) (24 : Int))), Value.int IntKind.u8 (1 : Int), Value.int IntKind.u8 (2 :
  Int), Value.int IntKind.u8 (3 : Int), Value.int IntKind.u8 (4 : Int)] 4)))) /\ (∃ j : PS, ((Inv j) /\ ((m j < m s) /\ ((0 = 0) /\ ((List.length g.1 = List.length g.1) /\
  ((0 = 0) /\ ((List.length g.2 = List.length g.2) /\ ((0 = 0) /\ ((0 = 0) /\ ((List.length j.2 = 0) /\ (((↑j.1 : Int) = (1 : Int)) /\ ((Eq (α := List Value) (gC enU g.1)
  (gC enU g.1)) /\ ((Plain (gC enU g.1)) /\ ((Eq (α := List Value) (gC enB g.2) (gC enB g.2)) /\ ((Plain (gC enB g.2)) /\ ((true = true) /\ (((2 : Int) = (2 : Int)) /\
  (((65535 : Int) = (65535 : Int)) /\ (((65536 : Int) = (65536 : Int)) /\ (((4096 : Int) = (4096 : Int)) /\ (((2147483647 : Int) = (2147483647 : Int)) /\ (((65535 : Int) =
  (65535 : Int)) /\ (((16384 : Int) = (16384 : Int)) /\ (((2147483647 : Int) = (2147483647 : Int)) /\ ((j.4 = 36) /\ ((List.length j.2 = 0) /\ ((0 = 0) /\ ((0 = 0) /\ ((0 =
  0) /\ (((65535 : Int) = (65535 : Int)) /\ (((65535 : Int) = (65535 : Int)) /\ (((0 : Int) = (0 : Int)) /\ (((1 : Int) = (1 : Int)) /\ ((true = true) /\ ((false = false) /\
  ((false = false) /\ ((false = false) /\ ((false = false) /\ (((0 : Int) = (0 : Int)) /\ ((false = false) /\ ((Eq (α := List Value) (bCells j.3) ([Value.int IntKind.u8 (0 :
  Int), Value.int IntKind.u8 (0 : Int), Value.int IntKind.u8 (18 : Int), Value.int IntKind.u8 (4 : Int), Value.int IntKind.u8 (0 : Int), Value.int IntKind.u8 (0 : Int),
  Value.int IntKind.u8 (0 : Int), Value.int IntKind.u8 (0 : Int), Value.int IntKind.u8 (0 : Int), Value.int IntKind.u8 (0 : Int), Value.int IntKind.u8 (3 : Int), Value.int
  IntKind.u8 (0 : Int), Value.int IntKind.u8 (0 : Int), Value.int IntKind.u8 (0 : Int), Value.int IntKind.u8 (2 : Int), Value.int IntKind.u8 (0 : Int), Value.int IntKind.u8
  (4 : Int), Value.int IntKind.u8 (0 : Int), Value.int IntKind.u8 (0 : Int), Value.int IntKind.u8 (255 : Int), Value.int IntKind.u8 (255 : Int), Value.int IntKind.u8 (0 :
  Int), Value.int IntKind.u8 (6 : Int), Value.int IntKind.u8 (0 : Int), Value.int IntKind.u8 (1 : Int), Value.int IntKind.u8 (0 : Int), Value.int IntKind.u8 (0 : Int),
  Value.int IntKind.u8 (0 : Int), Value.int IntKind.u8 (0 : Int), Value.int IntKind.u8 (0 : Int), Value.int IntKind.u8 (4 : Int), Value.int IntKind.u8 (1 : Int), Value.int
  IntKind.u8 (0 : Int), Value.int IntKind.u8 (0 : Int), Value.int IntKind.u8 (0 : Int), Value.int IntKind.u8 (0 : Int)])) /\ ((Plain (bCells j.3)) /\ ((17 = 17) /\ ((0 = 0)
  /\ (((16384 : Int) = (16384 : Int)) /\ ((ByteArray.mk #[] = ByteArray.mk #[]) /\ (((0 : Int) = (0 : Int)) /\ (((0 : Int) = (0 : Int)) /\ (((0 : Int) = (0 : Int)) /\ ((Eq
  (α := List Value) ([Value.int IntKind.u8 (0 : Int), Value.int IntKind.u8 (0 : Int), Value.int IntKind.u8 (8 : Int), Value.int IntKind.u8 (6 : Int), Value.int IntKind.u8
  j.5, Value.int IntKind.u8 (0 : Int), Value.int IntKind.u8 (0 : Int), Value.int IntKind.u8 (0 : Int), Value.int IntKind.u8 (0 : Int), Value.int IntKind.u8 j.6, Value.int
  IntKind.u8 j.7, Value.int IntKind.u8 j.8, Value.int IntKind.u8 j.9, Value.int IntKind.u8 (1 : Int), Value.int IntKind.u8 (2 : Int), Value.int IntKind.u8 (3 : Int),
  Value.int IntKind.u8 (4 : Int)]) ([Value.int IntKind.u8 (0 : Int), Value.int IntKind.u8 (0 : Int), Value.int IntKind.u8 (8 : Int), Value.int IntKind.u8 (6 : Int),
  Value.int IntKind.u8 (1 : Int), Value.int IntKind.u8 (0 : Int), Value.int IntKind.u8 (0 : Int), Value.int IntKind.u8 (0 : Int), Value.int IntKind.u8 (0 : Int), Value.int
  IntKind.u8 (IntKind.wrap IntKind.u8 (cellI (gC enU g.1) 0)), Value.int IntKind.u8 (IntKind.wrap IntKind.u8 (ishr IntKind.u32 (cellI (gC enU g.1) 0) (8 : Int))), Value.int
  IntKind.u8 (IntKind.wrap IntKind.u8 (ishr IntKind.u32 (cellI (gC enU g.1) 0) (16 : Int))), Value.int IntKind.u8 (IntKind.wrap IntKind.u8 (ishr IntKind.u32 (cellI (gC enU
  g.1) 0) (24 : Int))), Value.int IntKind.u8 (1 : Int), Value.int IntKind.u8 (2 : Int), Value.int IntKind.u8 (3 : Int), Value.int IntKind.u8 (4 : Int)])) /\ ((Plain
  [Value.int IntKind.u8 (0 : Int), Value.int IntKind.u8 (0 : Int), Value.int IntKind.u8 (8 : Int), Value.int IntKind.u8 (6 : Int), Value.int IntKind.u8 j.5, Value.int
  IntKind.u8 (0 : Int), Value.int IntKind.u8 (0 : Int), Value.int IntKind.u8 (0 : Int), Value.int IntKind.u8 (0 : Int), Value.int IntKind.u8 j.6, Value.int IntKind.u8 j.7,
  Value.int IntKind.u8 j.8, Value.int IntKind.u8 j.9, Value.int IntKind.u8 (1 : Int), Value.int IntKind.u8 (2 : Int), Value.int IntKind.u8 (3 : Int), Value.int IntKind.u8 (4
  : Int)]) /\ ((Eq (α := List Value) (bCells j.2) ([])) /\ ((Plain (bCells j.2)) /\ ((0 = 0) /\ (((4096 : Int) = (4096 : Int)) /\ (((65536 : Int) = (65536 : Int)) /\ ((false
  = false) /\ ((0 = 0) /\ ((false = false) /\ (((0 : Int) = (0 : Int)) /\ (((0 : Int) = (0 : Int)) /\ (((4096 : Int) = (4096 : Int)) /\ (((0 : Int) = (0 : Int)) /\ (((4096 :
  Int) = (4096 : Int)) /\ True)))))))))))))))))))))))))))))))))))))))))))))))))))))))))))))))))))))))))))))))))))) ((Eq (α := Option Value) (some (Value.int IntKind.u8 (0 :
  Int))) (some (Value.int IntKind.u8 (cellI [Value.int IntKind.u8 (0 : Int), Value.int IntKind.u8 (0 : Int), Value.int IntKind.u8 (8 : Int), Value.int IntKind.u8 (6 : Int),
  Value.int IntKind.u8 (0 : Int), Value.int IntKind.u8 (0 : Int), Value.int IntKind.u8 (0 : Int), Value.int IntKind.u8 (0 : Int), Value.int IntKind.u8 (0 : Int), Value.int
  IntKind.u8 (IntKind.wrap IntKind.u8 (cellI (gC enU g.1) 0)), Value.int IntKind.u8 (IntKind.wrap IntKind.u8 (ishr IntKind.u32 (cellI (gC enU g.1) 0) (8 : Int))), Value.int
  IntKind.u8 (IntKind.wrap IntKind.u8 (ishr IntKind.u32 (cellI (gC enU g.1) 0) (16 : Int))), Value.int IntKind.u8 (IntKind.wrap IntKind.u8 (ishr IntKind.u32 (cellI (gC enU
  g.1) 0) (24 : Int))), Value.int IntKind.u8 (1 : Int), Value.int IntKind.u8 (2 : Int), Value.int IntKind.u8 (3 : Int), Value.int IntKind.u8 (4 : Int)] 0)))) /\ ((Eq (α :=
  Option Value) (some (Value.int IntKind.u8 (0 : Int))) (some (Value.int IntKind.u8 (cellI [Value.int IntKind.u8 (0 : Int), Value.int IntKind.u8 (0 : Int), Value.int
  IntKind.u8 (8 : Int), Value.int IntKind.u8 (6 : Int), Value.int IntKind.u8 (0 : Int), Value.int IntKind.u8 (0 : Int), Value.int IntKind.u8 (0 : Int), Value.int IntKind.u8
  (0 : Int), Value.int IntKind.u8 (0 : Int), Value.int IntKind.u8 (IntKind.wrap IntKind.u8 (cellI (gC enU g.1) 0)), Value.int IntKind.u8 (IntKind.wrap IntKind.u8 (ishr
  IntKind.u32 (cellI (gC enU g.1) 0) (8 : Int))), Value.int IntKind.u8 (IntKind.wrap IntKind.u8 (ishr IntKind.u32 (cellI (gC enU g.1) 0) (16 : Int))), Value.int IntKind.u8
  (IntKind.wrap IntKind.u8 (ishr IntKind.u32 (cellI (gC enU g.1) 0) (24 : Int))), Value.int IntKind.u8 (1 : Int), Value.int IntKind.u8 (2 : Int), Value.int IntKind.u8 (3 :
  Int), Value.int IntKind.u8 (4 : Int)] 1)))) /\ ((Eq (α := Option Value) (some (Value.int IntKind.u8 (8 : Int))) (some (Value.int IntKind.u8 (cellI [Value.int IntKind.u8 (0
  : Int), Value.int IntKind.u8 (0 : Int), Value.int IntKind.u8 (8 : Int), Value.int IntKind.u8 (6 : Int), Value.int IntKind.u8 (0 : Int), Value.int IntKind.u8 (0 : Int),
  Value.int IntKind.u8 (0 : Int), Value.int IntKind.u8 (0 : Int), Value.int IntKind.u8 (0 : Int), Value.int IntKind.u8 (IntKind.wrap IntKind.u8 (cellI (gC enU g.1) 0)),
  Value.int IntKind.u8 (IntKind.wrap IntKind.u8 (ishr IntKind.u32 (cellI (gC enU g.1) 0) (8 : Int))), Value.int IntKind.u8 (IntKind.wrap IntKind.u8 (ishr IntKind.u32 (cellI
  (gC enU g.1) 0) (16 : Int))), Value.int IntKind.u8 (IntKind.wrap IntKind.u8 (ishr IntKind.u32 (cellI (gC enU g.1) 0) (24 : Int))), Value.int IntKind.u8 (1 : Int),
  Value.int IntKind.u8 (2 : Int), Value.int IntKind.u8 (3 : Int), Value.int IntKind.u8 (4 : Int)] 2)))) /\ ((Eq (α := Option Value) (some (Value.int IntKind.u8 (0 : Int)))
  (some (Value.int IntKind.u8 (cellI [Value.int IntKind.u8 (0 : Int), Value.int IntKind.u8 (0 : Int), Value.int IntKind.u8 (8 : Int), Value.int IntKind.u8 (6 : Int),
  Value.int IntKind.u8 (0 : Int), Value.int IntKind.u8 (0 : Int), Value.int IntKind.u8 (0 : Int), Value.int IntKind.u8 (0 : Int), Value.int IntKind.u8 (0 : Int), Value.int
  IntKind.u8 (IntKind.wrap IntKind.u8 (cellI (gC enU g.1) 0)), Value.int IntKind.u8 (IntKind.wrap IntKind.u8 (ishr IntKind.u32 (cellI (gC enU g.1) 0) (8 : Int))), Value.int
  IntKind.u8 (IntKind.wrap IntKind.u8 (ishr IntKind.u32 (cellI (gC enU g.1) 0) (16 : Int))), Value.int IntKind.u8 (IntKind.wrap IntKind.u8 (ishr IntKind.u32 (cellI (gC enU
  g.1) 0) (24 : Int))), Value.int IntKind.u8 (1 : Int), Value.int IntKind.u8 (2 : Int), Value.int IntKind.u8 (3 : Int), Value.int IntKind.u8 (4 : Int)] 0)))) /\ ((Eq (α :=
  Option Value) (some (Value.int IntKind.u8 (0 : Int))) (some (Value.int IntKind.u8 (cellI [Value.int IntKind.u8 (0 : Int), Value.int IntKind.u8 (0 : Int), Value.int
  IntKind.u8 (8 : Int), Value.int IntKind.u8 (6 : Int), Value.int IntKind.u8 (0 : Int), Value.int IntKind.u8 (0 : Int), Value.int IntKind.u8 (0 : Int), Value.int IntKind.u8
  (0 : Int), Value.int IntKind.u8 (0 : Int), Value.int IntKind.u8 (IntKind.wrap IntKind.u8 (cellI (gC enU g.1) 0)), Value.int IntKind.u8 (IntKind.wrap IntKind.u8 (ishr
  IntKind.u32 (cellI (gC enU g.1) 0) (8 : Int))), Value.int IntKind.u8 (IntKind.wrap IntKind.u8 (ishr IntKind.u32 (cellI (gC enU g.1) 0) (16 : Int))), Value.int IntKind.u8
  (IntKind.wrap IntKind.u8 (ishr IntKind.u32 (cellI (gC enU g.1) 0) (24 : Int))), Value.int IntKind.u8 (1 : Int), Value.int IntKind.u8 (2 : Int), Value.int IntKind.u8 (3 :
  Int), Value.int IntKind.u8 (4 : Int)] 1)))) /\ ((Eq (α := Option Value) (some (Value.int IntKind.u8 (8 : Int))) (some (Value.int IntKind.u8 (cellI [Value.int IntKind.u8 (0
  : Int), Value.int IntKind.u8 (0 : Int), Value.int IntKind.u8 (8 : Int), Value.int IntKind.u8 (6 : Int), Value.int IntKind.u8 (0 : Int), Value.int IntKind.u8 (0 : Int),
  Value.int IntKind.u8 (0 : Int), Value.int IntKind.u8 (0 : Int), Value.int IntKind.u8 (0 : Int), Value.int IntKind.u8 (IntKind.wrap IntKind.u8 (cellI (gC enU g.1) 0)),
  Value.int IntKind.u8 (IntKind.wrap IntKind.u8 (ishr IntKind.u32 (cellI (gC enU g.1) 0) (8 : Int))), Value.int IntKind.u8 (IntKind.wrap IntKind.u8 (ishr IntKind.u32 (cellI
  (gC enU g.1) 0) (16 : Int))), Value.int IntKind.u8 (IntKind.wrap IntKind.u8 (ishr IntKind.u32 (cellI (gC enU g.1) 0) (24 : Int))), Value.int IntKind.u8 (1 : Int),
  Value.int IntKind.u8 (2 : Int), Value.int IntKind.u8 (3 : Int), Value.int IntKind.u8 (4 : Int)] 2)))) /\ ((Eq (α := Option Value) (some (Value.int IntKind.u8 (0 : Int)))
  (some (Value.int IntKind.u8 (cellI [Value.int IntKind.u8 (0 : Int), Value.int IntKind.u8 (0 : Int), Value.int IntKind.u8 (8 : Int), Value.int IntKind.u8 (6 : Int),
  Value.int IntKind.u8 (0 : Int), Value.int IntKind.u8 (0 : Int), Value.int IntKind.u8 (0 : Int), Value.int IntKind.u8 (0 : Int), Value.int IntKind.u8 (0 : Int), Value.int
  IntKind.u8 (IntKind.wrap IntKind.u8 (cellI (gC enU g.1) 0)), Value.int IntKind.u8 (IntKind.wrap IntKind.u8 (ishr IntKind.u32 (cellI (gC enU g.1) 0) (8 : Int))), Value.int
  IntKind.u8 (IntKind.wrap IntKind.u8 (ishr IntKind.u32 (cellI (gC enU g.1) 0) (16 : Int))), Value.int IntKind.u8 (IntKind.wrap IntKind.u8 (ishr IntKind.u32 (cellI (gC enU
  g.1) 0) (24 : Int))), Value.int IntKind.u8 (1 : Int), Value.int IntKind.u8 (2 : Int), Value.int IntKind.u8 (3 : Int), Value.int IntKind.u8 (4 : Int)] 5)))) /\ ((Eq (α :=
  Option Value) (some (Value.int IntKind.u8 (0 : Int))) (some (Value.int IntKind.u8 (cellI [Value.int IntKind.u8 (0 : Int), Value.int IntKind.u8 (0 : Int), Value.int
  IntKind.u8 (8 : Int), Value.int IntKind.u8 (6 : Int), Value.int IntKind.u8 (0 : Int), Value.int IntKind.u8 (0 : Int), Value.int IntKind.u8 (0 : Int), Value.int IntKind.u8
  (0 : Int), Value.int IntKind.u8 (0 : Int), Value.int IntKind.u8 (IntKind.wrap IntKind.u8 (cellI (gC enU g.1) 0)), Value.int IntKind.u8 (IntKind.wrap IntKind.u8 (ishr
  IntKind.u32 (cellI (gC enU g.1) 0) (8 : Int))), Value.int IntKind.u8 (IntKind.wrap IntKind.u8 (ishr IntKind.u32 (cellI (gC enU g.1) 0) (16 : Int))), Value.int IntKind.u8
  (IntKind.wrap IntKind.u8 (ishr IntKind.u32 (cellI (gC enU g.1) 0) (24 : Int))), Value.int IntKind.u8 (1 : Int), Value.int IntKind.u8 (2 : Int), Value.int IntKind.u8 (3 :
  Int), Value.int IntKind.u8 (4 : Int)] 6)))) /\ ((Eq (α := Option Value) (some (Value.int IntKind.u8 (0 : Int))) (some (Value.int IntKind.u8 (cellI [Value.int IntKind.u8 (0
  : Int), Value.int IntKind.u8 (0 : Int), Value.int IntKind.u8 (8 : Int), Value.int IntKind.u8 (6 : Int), Value.int IntKind.u8 (0 : Int), Value.int IntKind.u8 (0 : Int),
  Value.int IntKind.u8 (0 : Int), Value.int IntKind.u8 (0 : Int), Value.int IntKind.u8 (0 : Int), Value.int IntKind.u8 (IntKind.wrap IntKind.u8 (cellI (gC enU g.1) 0)),
  Value.int IntKind.u8 (IntKind.wrap IntKind.u8 (ishr IntKind.u32 (cellI (gC enU g.1) 0) (8 : Int))), Value.int IntKind.u8 (IntKind.wrap IntKind.u8 (ishr IntKind.u32 (cellI
  (gC enU g.1) 0) (16 : Int))), Value.int IntKind.u8 (IntKind.wrap IntKind.u8 (ishr IntKind.u32 (cellI (gC enU g.1) 0) (24 : Int))), Value.int IntKind.u8 (1 : Int),
  Value.int IntKind.u8 (2 : Int), Value.int IntKind.u8 (3 : Int), Value.int IntKind.u8 (4 : Int)] 7)))) /\ ((Eq (α := Option Value) (some (Value.int IntKind.u8 (0 : Int)))
  (some (Value.int IntKind.u8 (cellI [Value.int IntKind.u8 (0 : Int), Value.int IntKind.u8 (0 : Int), Value.int IntKind.u8 (8 : Int), Value.int IntKind.u8 (6 : Int),
  Value.int IntKind.u8 (0 : Int), Value.int IntKind.u8 (0 : Int), Value.int IntKind.u8 (0 : Int), Value.int IntKind.u8 (0 : Int), Value.int IntKind.u8 (0 : Int), Value.int
  IntKind.u8 (IntKind.wrap IntKind.u8 (cellI (gC enU g.1) 0)), Value.int IntKind.u8 (IntKind.wrap IntKind.u8 (ishr IntKind.u32 (cellI (gC enU g.1) 0) (8 : Int))), Value.int
  IntKind.u8 (IntKind.wrap IntKind.u8 (ishr IntKind.u32 (cellI (gC enU g.1) 0) (16 : Int))), Value.int IntKind.u8 (IntKind.wrap IntKind.u8 (ishr IntKind.u32 (cellI (gC enU
  g.1) 0) (24 : Int))), Value.int IntKind.u8 (1 : Int), Value.int IntKind.u8 (2 : Int), Value.int IntKind.u8 (3 : Int), Value.int IntKind.u8 (4 : Int)] 8)))) /\ ((Eq (α :=
  Option Value) (some (Value.int IntKind.u8 (0 : Int))) (some (Value.int IntKind.u8 (cellI [Value.int IntKind.u8 (0 : Int), Value.int IntKind.u8 (0 : Int), Value.int
  IntKind.u8 (8 : Int), Value.int IntKind.u8 (6 : Int), Value.int IntKind.u8 (0 : Int), Value.int IntKind.u8 (0 : Int), Value.int IntKind.u8 (0 : Int), Value.int IntKind.u8
  (0 : Int), Value.int IntKind.u8 (0 : Int), Value.int IntKind.u8 (IntKind.wrap IntKind.u8 (cellI (gC enU g.1) 0)), Value.int IntKind.u8 (IntKind.wrap IntKind.u8 (ishr
  IntKind.u32 (cellI (gC enU g.1) 0) (8 : Int))), Value.int IntKind.u8 (IntKind.wrap IntKind.u8 (ishr IntKind.u32 (cellI (gC enU g.1) 0) (16 : Int))), Value.int IntKind.u8
  (IntKind.wrap IntKind.u8 (ishr IntKind.u32 (cellI (gC enU g.1) 0) (24 : Int))), Value.int IntKind.u8 (1 : Int), Value.int IntKind.u8 (2 : Int), Value.int IntKind.u8 (3 :
  Int), Value.int IntKind.u8 (4 : Int)] 5)))) /\ ((Eq (α := Option Value) (some (Value.int IntKind.u8 (0 : Int))) (some (Value.int IntKind.u8 (cellI [Value.int IntKind.u8 (0
  : Int), Value.int IntKind.u8 (0 : Int), Value.int IntKind.u8 (8 : Int), Value.int IntKind.u8 (6 : Int), Value.int IntKind.u8 (0 : Int), Value.int IntKind.u8 (0 : Int),
  Value.int IntKind.u8 (0 : Int), Value.int IntKind.u8 (0 : Int), Value.int IntKind.u8 (0 : Int), Value.int IntKind.u8 (IntKind.wrap IntKind.u8 (cellI (gC enU g.1) 0)),
  Value.int IntKind.u8 (IntKind.wrap IntKind.u8 (ishr IntKind.u32 (cellI (gC enU g.1) 0) (8 : Int))), Value.int IntKind.u8 (IntKind.wrap IntKind.u8 (ishr IntKind.u32 (cellI
  (gC enU g.1) 0) (16 : Int))), Value.int IntKind.u8 (IntKind.wrap IntKind.u8 (ishr IntKind.u32 (cellI (gC enU g.1) 0) (24 : Int))), Value.int IntKind.u8 (1 : Int),
  Value.int IntKind.u8 (2 : Int), Value.int IntKind.u8 (3 : Int), Value.int IntKind.u8 (4 : Int)] 6)))) /\ ((Eq (α := Option Value) (some (Value.int IntKind.u8 (0 : Int)))
  (some (Value.int IntKind.u8 (cellI [Value.int IntKind.u8 (0 : Int), Value.int IntKind.u8 (0 : Int), Value.int IntKind.u8 (8 : Int), Value.int IntKind.u8 (6 : Int),
  Value.int IntKind.u8 (0 : Int), Value.int IntKind.u8 (0 : Int), Value.int IntKind.u8 (0 : Int), Value.int IntKind.u8 (0 : Int), Value.int IntKind.u8 (0 : Int), Value.int
  IntKind.u8 (IntKind.wrap IntKind.u8 (cellI (gC enU g.1) 0)), Value.int IntKind.u8 (IntKind.wrap IntKind.u8 (ishr IntKind.u32 (cellI (gC enU g.1) 0) (8 : Int))), Value.int
  IntKind.u8 (IntKind.wrap IntKind.u8 (ishr IntKind.u32 (cellI (gC enU g.1) 0) (16 : Int))), Value.int IntKind.u8 (IntKind.wrap IntKind.u8 (ishr IntKind.u32 (cellI (gC enU
  g.1) 0) (24 : Int))), Value.int IntKind.u8 (1 : Int), Value.int IntKind.u8 (2 : Int), Value.int IntKind.u8 (3 : Int), Value.int IntKind.u8 (4 : Int)] 7)))) /\ ((Eq (α :=
  Option Value) (some (Value.int IntKind.u8 (0 : Int))) (some (Value.int IntKind.u8 (cellI [Value.int IntKind.u8 (0 : Int), Value.int IntKind.u8 (0 : Int), Value.int
  IntKind.u8 (8 : Int), Value.int IntKind.u8 (6 : Int), Value.int IntKind.u8 (0 : Int), Value.int IntKind.u8 (0 : Int), Value.int IntKind.u8 (0 : Int), Value.int IntKind.u8
  (0 : Int), Value.int IntKind.u8 (0 : Int), Value.int IntKind.u8 (IntKind.wrap IntKind.u8 (cellI (gC enU g.1) 0)), Value.int IntKind.u8 (IntKind.wrap IntKind.u8 (ishr
  IntKind.u32 (cellI (gC enU g.1) 0) (8 : Int))), Value.int IntKind.u8 (IntKind.wrap IntKind.u8 (ishr IntKind.u32 (cellI (gC enU g.1) 0) (16 : Int))), Value.int IntKind.u8
  (IntKind.wrap IntKind.u8 (ishr IntKind.u32 (cellI (gC enU g.1) 0) (24 : Int))), Value.int IntKind.u8 (1 : Int), Value.int IntKind.u8 (2 : Int), Value.int IntKind.u8 (3 :
  Int), Value.int IntKind.u8 (4 : Int)] 8)))) /\ ((Eq (α := Option Value) (some (Value.int IntKind.u8 (6 : Int))) (some (Value.int IntKind.u8 (cellI [Value.int IntKind.u8 (0
  : Int), Value.int IntKind.u8 (0 : Int), Value.int IntKind.u8 (8 : Int), Value.int IntKind.u8 (6 : Int), Value.int IntKind.u8 (0 : Int), Value.int IntKind.u8 (0 : Int),
  Value.int IntKind.u8 (0 : Int), Value.int IntKind.u8 (0 : Int), Value.int IntKind.u8 (0 : Int), Value.int IntKind.u8 (IntKind.wrap IntKind.u8 (cellI (gC enU g.1) 0)),
  Value.int IntKind.u8 (IntKind.wrap IntKind.u8 (ishr IntKind.u32 (cellI (gC enU g.1) 0) (8 : Int))), Value.int IntKind.u8 (IntKind.wrap IntKind.u8 (ishr IntKind.u32 (cellI
  (gC enU g.1) 0) (16 : Int))), Value.int IntKind.u8 (IntKind.wrap IntKind.u8 (ishr IntKind.u32 (cellI (gC enU g.1) 0) (24 : Int))), Value.int IntKind.u8 (1 : Int),
  Value.int IntKind.u8 (2 : Int), Value.int IntKind.u8 (3 : Int), Value.int IntKind.u8 (4 : Int)] 3)))) /\ ((Eq (α := Option Value) (some (Value.int IntKind.u8 (0 : Int)))
  (some (Value.int IntKind.u8 (cellI [Value.int IntKind.u8 (0 : Int), Value.int IntKind.u8 (0 : Int), Value.int IntKind.u8 (8 : Int), Value.int IntKind.u8 (6 : Int),
  Value.int IntKind.u8 (0 : Int), Value.int IntKind.u8 (0 : Int), Value.int IntKind.u8 (0 : Int), Value.int IntKind.u8 (0 : Int), Value.int IntKind.u8 (0 : Int), Value.int
  IntKind.u8 (IntKind.wrap IntKind.u8 (cellI (gC enU g.1) 0)), Value.int IntKind.u8 (IntKind.wrap IntKind.u8 (ishr IntKind.u32 (cellI (gC enU g.1) 0) (8 : Int))), Value.int
  IntKind.u8 (IntKind.wrap IntKind.u8 (ishr IntKind.u32 (cellI (gC enU g.1) 0) (16 : Int))), Value.int IntKind.u8 (IntKind.wrap IntKind.u8 (ishr IntKind.u32 (cellI (gC enU
  g.1) 0) (24 : Int))), Value.int IntKind.u8 (1 : Int), Value.int IntKind.u8 (2 : Int), Value.int IntKind.u8 (3 : Int), Value.int IntKind.u8 (4 : Int)] 4)))) /\ ((Eq (α :=
  Option Value) (some (Value.int IntKind.u8 (6 : Int))) (some (Value.int IntKind.u8 (cellI [Value.int IntKind.u8 (0 : Int), Value.int IntKind.u8 (0 : Int), Value.int
  IntKind.u8 (8 : Int), Value.int IntKind.u8 (6 : Int), Value.int IntKind.u8 (0 : Int), Value.int IntKind.u8 (0 : Int), Value.int IntKind.u8 (0 : Int), Value.int IntKind.u8
  (0 : Int), Value.int IntKind.u8 (0 : Int), Value.int IntKind.u8 (IntKind.wrap IntKind.u8 (cellI (gC enU g.1) 0)), Value.int IntKind.u8 (IntKind.wrap IntKind.u8 (ishr
  IntKind.u32 (cellI (gC enU g.1) 0) (8 : Int))), Value.int IntKind.u8 (IntKind.wrap IntKind.u8 (ishr IntKind.u32 (cellI (gC enU g.1) 0) (16 : Int))), Value.int IntKind.u8
  (IntKind.wrap IntKind.u8 (ishr IntKind.u32 (cellI (gC enU g.1) 0) (24 : Int))), Value.int IntKind.u8 (1 : Int), Value.int IntKind.u8 (2 : Int), Value.int IntKind.u8 (3 :
  Int), Value.int IntKind.u8 (4 : Int)] 3)))) /\ ((Eq (α := Option Value) (some (Value.int IntKind.u8 (6 : Int))) (some (Value.int IntKind.u8 (cellI [Value.int IntKind.u8 (0
  : Int), Value.int IntKind.u8 (0 : Int), Value.int IntKind.u8 (8 : Int), Value.int IntKind.u8 (6 : Int), Value.int IntKind.u8 (0 : Int), Value.int IntKind.u8 (0 : Int),
  Value.int IntKind.u8 (0 : Int), Value.int IntKind.u8 (0 : Int), Value.int IntKind.u8 (0 : Int), Value.int IntKind.u8 (IntKind.wrap IntKind.u8 (cellI (gC enU g.1) 0)),
  Value.int IntKind.u8 (IntKind.wrap IntKind.u8 (ishr IntKind.u32 (cellI (gC enU g.1) 0) (8 : Int))), Value.int IntKind.u8 (IntKind.wrap IntKind.u8 (ishr IntKind.u32 (cellI
  (gC enU g.1) 0) (16 : Int))), Value.int IntKind.u8 (IntKind.wrap IntKind.u8 (ishr IntKind.u32 (cellI (gC enU g.1) 0) (24 : Int))), Value.int IntKind.u8 (1 : Int),
  Value.int IntKind.u8 (2 : Int), Value.int IntKind.u8 (3 : Int), Value.int IntKind.u8 (4 : Int)] 3)))) /\ ((Eq (α := Option Value) (some (Value.int IntKind.u8 (0 : Int)))
  (some (Value.int IntKind.u8 (cellI [Value.int IntKind.u8 (0 : Int), Value.int IntKind.u8 (0 : Int), Value.int IntKind.u8 (8 : Int), Value.int IntKind.u8 (6 : Int),
  Value.int IntKind.u8 (0 : Int), Value.int IntKind.u8 (0 : Int), Value.int IntKind.u8 (0 : Int), Value.int IntKind.u8 (0 : Int), Value.int IntKind.u8 (0 : Int), Value.int
  IntKind.u8 (IntKind.wrap IntKind.u8 (cellI (gC enU g.1) 0)), Value.int IntKind.u8 (IntKind.wrap IntKind.u8 (ishr IntKind.u32 (cellI (gC enU g.1) 0) (8 : Int))), Value.int
  IntKind.u8 (IntKind.wrap IntKind.u8 (ishr IntKind.u32 (cellI (gC enU g.1) 0) (16 : Int))), Value.int IntKind.u8 (IntKind.wrap IntKind.u8 (ishr IntKind.u32 (cellI (gC enU
  g.1) 0) (24 : Int))), Value.int IntKind.u8 (1 : Int), Value.int IntKind.u8 (2 : Int), Value.int IntKind.u8 (3 : Int), Value.int IntKind.u8 (4 : Int)] 4)))) /\ ((Eq (α :=
  Option Value) (some (Value.int IntKind.u8 (0 : Int))) (some (Value.int IntKind.u8 (cellI [Value.int IntKind.u8 (0 : Int), Value.int IntKind.u8 (0 : Int), Value.int
  IntKind.u8 (8 : Int), Value.int IntKind.u8 (6 : Int), Value.int IntKind.u8 (0 : Int), Value.int IntKind.u8 (0 : Int), Value.int IntKind.u8 (0 : Int), Value.int IntKind.u8
  (0 : Int), Value.int IntKind.u8 (0 : Int), Value.int IntKind.u8 (IntKind.wrap IntKind.u8 (cellI (gC enU g.1) 0)), Value.int IntKind.u8 (IntKind.wrap IntKind.u8 (ishr
  IntKind.u32 (cellI (gC enU g.1) 0) (8 : Int))), Value.int IntKind.u8 (IntKind.wrap IntKind.u8 (ishr IntKind.u32 (cellI (gC enU g.1) 0) (16 : Int))), Value.int IntKind.u8
  (IntKind.wrap IntKind.u8 (ishr IntKind.u32 (cellI (gC enU g.1) 0) (24 : Int))), Value.int IntKind.u8 (1 : Int), Value.int IntKind.u8 (2 : Int), Value.int IntKind.u8 (3 :
  Int), Value.int IntKind.u8 (4 : Int)] 4)))) /\ (∃ j : PS, ((Inv j) /\ ((m j < m s) /\ ((0 = 0) /\ ((List.length g.1 = List.length g.1) /\ ((0 = 0) /\ ((List.length g.2 =
  List.length g.2) /\ ((0 = 0) /\ ((0 = 0) /\ ((List.length j.2 = 17) /\ (((↑j.1 : Int) = (1 : Int)) /\ ((Eq (α := List Value) (gC enU g.1) (gC enU g.1)) /\ ((Plain (gC enU
  g.1)) /\ ((Eq (α := List Value) (gC enB g.2) (gC enB g.2)) /\ ((Plain (gC enB g.2)) /\ ((true = true) /\ (((2 : Int) = (2 : Int)) /\ (((65535 : Int) = (65535 : Int)) /\
  (((65536 : Int) = (65536 : Int)) /\ (((4096 : Int) = (4096 : Int)) /\ (((2147483647 : Int) = (2147483647 : Int)) /\ (((65535 : Int) = (65535 : Int)) /\ (((16384 : Int) =
  (16384 : Int)) /\ (((2147483647 : Int) = (2147483647 : Int)) /\ ((j.4 = 0) /\ ((List.length j.2 = 17) /\ ((0 = 0) /\ ((0 = 0) /\ ((0 = 0) /\ (((65535 : Int) = (65535 :
  Int)) /\ (((65535 : Int) = (65535 : Int)) /\ (((0 : Int) = (0 : Int)) /\ (((1 : Int) = (1 : Int)) /\ ((true = true) /\ ((false = false) /\ ((false = false) /\ ((false =
  false) /\ ((false = false) /\ (((0 : Int) = (0 : Int)) /\ ((false = false) /\ ((Eq (α := List Value) (bCells j.3) ([Value.int IntKind.u8 (IntKind.wrap IntKind.u8 (ishr
  IntKind.i64 (Int.ofNat 8) (16 : Int))), Value.int IntKind.u8 (IntKind.wrap IntKind.u8 (ishr IntKind.i64 (Int.ofNat 8) (8 : Int))), Value.int IntKind.u8 (IntKind.wrap
  IntKind.u8 (Int.ofNat 8)), Value.int IntKind.u8 (6 : Int), Value.int IntKind.u8 (1 : Int), Value.int IntKind.u8 (0 : Int), Value.int IntKind.u8 (0 : Int), Value.int
  IntKind.u8 (0 : Int), Value.int IntKind.u8 (0 : Int), Value.int IntKind.u8 (IntKind.wrap IntKind.u8 (cellI (gC enU g.1) 0)), Value.int IntKind.u8 (IntKind.wrap IntKind.u8
  (ishr IntKind.u32 (cellI (gC enU g.1) 0) (8 : Int))), Value.int IntKind.u8 (IntKind.wrap IntKind.u8 (ishr IntKind.u32 (cellI (gC enU g.1) 0) (16 : Int))), Value.int
  IntKind.u8 (IntKind.wrap IntKind.u8 (ishr IntKind.u32 (cellI (gC enU g.1) 0) (24 : Int))), Value.int IntKind.u8 (1 : Int), Value.int IntKind.u8 (2 : Int), Value.int
  IntKind.u8 (3 : Int), Value.int IntKind.u8 (4 : Int)])) /\ ((Plain (bCells j.3)) /\ ((17 = 17) /\ ((0 = 0) /\ (((16384 : Int) = (16384 : Int)) /\ ((ByteArray.mk #[] =
  ByteArray.mk #[]) /\ (((0 : Int) = (0 : Int)) /\ (((0 : Int) = (0 : Int)) /\ (((0 : Int) = (0 : Int)) /\ ((Eq (α := List Value) ([Value.int IntKind.u8 (0 : Int), Value.int
  IntKind.u8 (0 : Int), Value.int IntKind.u8 (8 : Int), Value.int IntKind.u8 (6 : Int), Value.int IntKind.u8 j.5, Value.int IntKind.u8 (0 : Int), Value.int IntKind.u8 (0 :
  Int), Value.int IntKind.u8 (0 : Int), Value.int IntKind.u8 (0 : Int), Value.int IntKind.u8 j.6, Value.int IntKind.u8 j.7, Value.int IntKind.u8 j.8, Value.int IntKind.u8
  j.9, Value.int IntKind.u8 (1 : Int), Value.int IntKind.u8 (2 : Int), Value.int IntKind.u8 (3 : Int), Value.int IntKind.u8 (4 : Int)]) ([Value.int IntKind.u8 (0 : Int),
  Value.int IntKind.u8 (0 : Int), Value.int IntKind.u8 (8 : Int), Value.int IntKind.u8 (6 : Int), Value.int IntKind.u8 (0 : Int), Value.int IntKind.u8 (0 : Int), Value.int
  IntKind.u8 (0 : Int), Value.int IntKind.u8 (0 : Int), Value.int IntKind.u8 (0 : Int), Value.int IntKind.u8 (IntKind.wrap IntKind.u8 (cellI (gC enU g.1) 0)), Value.int
  IntKind.u8 (IntKind.wrap IntKind.u8 (ishr IntKind.u32 (cellI (gC enU g.1) 0) (8 : Int))), Value.int IntKind.u8 (IntKind.wrap IntKind.u8 (ishr IntKind.u32 (cellI (gC enU
  g.1) 0) (16 : Int))), Value.int IntKind.u8 (IntKind.wrap IntKind.u8 (ishr IntKind.u32 (cellI (gC enU g.1) 0) (24 : Int))), Value.int IntKind.u8 (1 : Int), Value.int
  IntKind.u8 (2 : Int), Value.int IntKind.u8 (3 : Int), Value.int IntKind.u8 (4 : Int)])) /\ ((Plain [Value.int IntKind.u8 (0 : Int), Value.int IntKind.u8 (0 : Int),
  Value.int IntKind.u8 (8 : Int), Value.int IntKind.u8 (6 : Int), Value.int IntKind.u8 j.5, Value.int IntKind.u8 (0 : Int), Value.int IntKind.u8 (0 : Int), Value.int
  IntKind.u8 (0 : Int), Value.int IntKind.u8 (0 : Int), Value.int IntKind.u8 j.6, Value.int IntKind.u8 j.7, Value.int IntKind.u8 j.8, Value.int IntKind.u8 j.9, Value.int
  IntKind.u8 (1 : Int), Value.int IntKind.u8 (2 : Int), Value.int IntKind.u8 (3 : Int), Value.int IntKind.u8 (4 : Int)]) /\ ((Eq (α := List Value) (bCells j.2) ([Value.int
  IntKind.u8 (0 : Int), Value.int IntKind.u8 (0 : Int), Value.int IntKind.u8 (8 : Int), Value.int IntKind.u8 (6 : Int), Value.int IntKind.u8 (1 : Int), Value.int IntKind.u8
  (0 : Int), Value.int IntKind.u8 (0 : Int), Value.int IntKind.u8 (0 : Int), Value.int IntKind.u8 (0 : Int), Value.int IntKind.u8 (IntKind.wrap IntKind.u8 (cellI (gC enU
  g.1) 0)), Value.int IntKind.u8 (IntKind.wrap IntKind.u8 (ishr IntKind.u32 (cellI (gC enU g.1) 0) (8 : Int))), Value.int IntKind.u8 (IntKind.wrap IntKind.u8 (ishr
  IntKind.u32 (cellI (gC enU g.1) 0) (16 : Int))), Value.int IntKind.u8 (IntKind.wrap IntKind.u8 (ishr IntKind.u32 (cellI (gC enU g.1) 0) (24 : Int))), Value.int IntKind.u8
  (1 : Int), Value.int IntKind.u8 (2 : Int), Value.int IntKind.u8 (3 : Int), Value.int IntKind.u8 (4 : Int)])) /\ ((Plain (bCells j.2)) /\ ((0 = 0) /\ (((4096 : Int) = (4096
  : Int)) /\ (((65536 : Int) = (65536 : Int)) /\ ((false = false) /\ ((0 = 0) /\ ((false = false) /\ (((0 : Int) = (0 : Int)) /\ (((0 : Int) = (0 : Int)) /\ (((4096 : Int) =
  (4096 : Int)) /\ (((0 : Int) = (0 : Int)) /\ (((4096 : Int) = (4096 : Int)) /\ True))))))))))))))))))))))))))))))))))))))))))))))))))))))))))))))))))))))))))))))))))))))
  False) ((Eq (α := Option Value) (some (Value.int IntKind.u8 (0 : Int))) (some (Value.int IntKind.u8 (cellI [Value.int IntKind.u8 (0 : Int), Value.int IntKind.u8 (0 : Int),
  Value.int IntKind.u8 (8 : Int), Value.int IntKind.u8 (6 : Int), Value.int IntKind.u8 (0 : Int), Value.int IntKind.u8 (0 : Int), Value.int IntKind.u8 (0 : Int), Value.int
  IntKind.u8 (0 : Int), Value.int IntKind.u8 (0 : Int), Value.int IntKind.u8 (IntKind.wrap IntKind.u8 (cellI (gC enU g.1) 0)), Value.int IntKind.u8 (IntKind.wrap IntKind.u8
  (ishr IntKind.u32 (cellI (gC enU g.1) 0) (8 : Int))), Value.int IntKind.u8 (IntKind.wrap IntKind.u8 (ishr IntKind.u32 (cellI (gC enU g.1) 0) (16 : Int))), Value.int
  IntKind.u8 (IntKind.wrap IntKind.u8 (ishr IntKind.u32 (cellI (gC enU g.1) 0) (24 : Int))), Value.int IntKind.u8 (1 : Int), Value.int IntKind.u8 (2 : Int), Value.int
  IntKind.u8 (3 : Int), Value.int IntKind.u8 (4 : Int)] 0)))) /\ ((Eq (α := Option Value) (some (Value.int IntKind.u8 (0 : Int))) (some (Value.int IntKind.u8 (cellI
  [Value.int IntKind.u8 (0 : Int), Value.int IntKind.u8 (0 : Int), Value.int IntKind.u8 (8 : Int), Value.int IntKind.u8 (6 : Int), Value.int IntKind.u8 (0 : Int), Value.int
  IntKind.u8 (0 : Int), Value.int IntKind.u8 (0 : Int), Value.int IntKind.u8 (0 : Int), Value.int IntKind.u8 (0 : Int), Value.int IntKind.u8 (IntKind.wrap IntKind.u8 (cellI
  (gC enU g.1) 0)), Value.int IntKind.u8 (IntKind.wrap IntKind.u8 (ishr IntKind.u32 (cellI (gC enU g.1) 0) (8 : Int))), Value.int IntKind.u8 (IntKind.wrap IntKind.u8 (ishr
  IntKind.u32 (cellI (gC enU g.1) 0) (16 : Int))), Value.int IntKind.u8 (IntKind.wrap IntKind.u8 (ishr IntKind.u32 (cellI (gC enU g.1) 0) (24 : Int))), Value.int IntKind.u8
  (1 : Int), Value.int IntKind.u8 (2 : Int), Value.int IntKind.u8 (3 : Int), Value.int IntKind.u8 (4 : Int)] 1)))) /\ ((Eq (α := Option Value) (some (Value.int IntKind.u8 (8
  : Int))) (some (Value.int IntKind.u8 (cellI [Value.int IntKind.u8 (0 : Int), Value.int IntKind.u8 (0 : Int), Value.int IntKind.u8 (8 : Int), Value.int IntKind.u8 (6 :
  Int), Value.int IntKind.u8 (0 : Int), Value.int IntKind.u8 (0 : Int), Value.int IntKind.u8 (0 : Int), Value.int IntKind.u8 (0 : Int), Value.int IntKind.u8 (0 : Int),
  Value.int IntKind.u8 (IntKind.wrap IntKind.u8 (cellI (gC enU g.1) 0)), Value.int IntKind.u8 (IntKind.wrap IntKind.u8 (ishr IntKind.u32 (cellI (gC enU g.1) 0) (8 : Int))),
  Value.int IntKind.u8 (IntKind.wrap IntKind.u8 (ishr IntKind.u32 (cellI (gC enU g.1) 0) (16 : Int))), Value.int IntKind.u8 (IntKind.wrap IntKind.u8 (ishr IntKind.u32 (cellI
  (gC enU g.1) 0) (24 : Int))), Value.int IntKind.u8 (1 : Int), Value.int IntKind.u8 (2 : Int), Value.int IntKind.u8 (3 : Int), Value.int IntKind.u8 (4 : Int)] 2)))) /\ ((Eq
  (α := Option Value) (some (Value.int IntKind.u8 (0 : Int))) (some (Value.int IntKind.u8 (cellI [Value.int IntKind.u8 (0 : Int), Value.int IntKind.u8 (0 : Int), Value.int
  IntKind.u8 (8 : Int), Value.int IntKind.u8 (6 : Int), Value.int IntKind.u8 (0 : Int), Value.int IntKind.u8 (0 : Int), Value.int IntKind.u8 (0 : Int), Value.int IntKind.u8
  (0 : Int), Value.int IntKind.u8 (0 : Int), Value.int IntKind.u8 (IntKind.wrap IntKind.u8 (cellI (gC enU g.1) 0)), Value.int IntKind.u8 (IntKind.wrap IntKind.u8 (ishr
  IntKind.u32 (cellI (gC enU g.1) 0) (8 : Int))), Value.int IntKind.u8 (IntKind.wrap IntKind.u8 (ishr IntKind.u32 (cellI (gC enU g.1) 0) (16 : Int))), Value.int IntKind.u8
  (IntKind.wrap IntKind.u8 (ishr IntKind.u32 (cellI (gC enU g.1) 0) (24 : Int))), Value.int IntKind.u8 (1 : Int), Value.int IntKind.u8 (2 : Int), Value.int IntKind.u8 (3 :
  Int), Value.int IntKind.u8 (4 : Int)] 0)))) /\ ((Eq (α := Option Value) (some (Value.int IntKind.u8 (0 : Int))) (some (Value.int IntKind.u8 (cellI [Value.int IntKind.u8 (0
  : Int), Value.int IntKind.u8 (0 : Int), Value.int IntKind.u8 (8 : Int), Value.int IntKind.u8 (6 : Int), Value.int IntKind.u8 (0 : Int), Value.int IntKind.u8 (0 : Int),
  Value.int IntKind.u8 (0 : Int), Value.int IntKind.u8 (0 : Int), Value.int IntKind.u8 (0 : Int), Value.int IntKind.u8 (IntKind.wrap IntKind.u8 (cellI (gC enU g.1) 0)),
  Value.int IntKind.u8 (IntKind.wrap IntKind.u8 (ishr IntKind.u32 (cellI (gC enU g.1) 0) (8 : Int))), Value.int IntKind.u8 (IntKind.wrap IntKind.u8 (ishr IntKind.u32 (cellI
  (gC enU g.1) 0) (16 : Int))), Value.int IntKind.u8 (IntKind.wrap IntKind.u8 (ishr IntKind.u32 (cellI (gC enU g.1) 0) (24 : Int))), Value.int IntKind.u8 (1 : Int),
  Value.int IntKind.u8 (2 : Int), Value.int IntKind.u8 (3 : Int), Value.int IntKind.u8 (4 : Int)] 1)))) /\ ((Eq (α := Option Value) (some (Value.int IntKind.u8 (8 : Int)))
  (some (Value.int IntKind.u8 (cellI [Value.int IntKind.u8 (0 : Int), Value.int IntKind.u8 (0 : Int), Value.int IntKind.u8 (8 : Int), Value.int IntKind.u8 (6 : Int),
  Value.int IntKind.u8 (0 : Int), Value.int IntKind.u8 (0 : Int), Value.int IntKind.u8 (0 : Int), Value.int IntKind.u8 (0 : Int), Value.int IntKind.u8 (0 : Int), Value.int
  IntKind.u8 (IntKind.wrap IntKind.u8 (cellI (gC enU g.1) 0)), Value.int IntKind.u8 (IntKind.wrap IntKind.u8 (ishr IntKind.u32 (cellI (gC enU g.1) 0) (8 : Int))), Value.int
  IntKind.u8 (IntKind.wrap IntKind.u8 (ishr IntKind.u32 (cellI (gC enU g.1) 0) (16 : Int))), Value.int IntKind.u8 (IntKind.wrap IntKind.u8 (ishr IntKind.u32 (cellI (gC enU
  g.1) 0) (24 : Int))), Value.int IntKind.u8 (1 : Int), Value.int IntKind.u8 (2 : Int), Value.int IntKind.u8 (3 : Int), Value.int IntKind.u8 (4 : Int)] 2)))) /\ ((Eq (α :=
  Option Value) (some (Value.int IntKind.u8 (0 : Int))) (some (Value.int IntKind.u8 (cellI [Value.int IntKind.u8 (0 : Int), Value.int IntKind.u8 (0 : Int), Value.int
  IntKind.u8 (8 : Int), Value.int IntKind.u8 (6 : Int), Value.int IntKind.u8 (0 : Int), Value.int IntKind.u8 (0 : Int), Value.int IntKind.u8 (0 : Int), Value.int IntKind.u8
  (0 : Int), Value.int IntKind.u8 (0 : Int), Value.int IntKind.u8 (IntKind.wrap IntKind.u8 (cellI (gC enU g.1) 0)), Value.int IntKind.u8 (IntKind.wrap IntKind.u8 (ishr
  IntKind.u32 (cellI (gC enU g.1) 0) (8 : Int))), Value.int IntKind.u8 (IntKind.wrap IntKind.u8 (ishr IntKind.u32 (cellI (gC enU g.1) 0) (16 : Int))), Value.int IntKind.u8
  (IntKind.wrap IntKind.u8 (ishr IntKind.u32 (cellI (gC enU g.1) 0) (24 : Int))), Value.int IntKind.u8 (1 : Int), Value.int IntKind.u8 (2 : Int), Value.int IntKind.u8 (3 :
  Int), Value.int IntKind.u8 (4 : Int)] 5)))) /\ ((Eq (α := Option Value) (some (Value.int IntKind.u8 (0 : Int))) (some (Value.int IntKind.u8 (cellI [Value.int IntKind.u8 (0
  : Int), Value.int IntKind.u8 (0 : Int), Value.int IntKind.u8 (8 : Int), Value.int IntKind.u8 (6 : Int), Value.int IntKind.u8 (0 : Int), Value.int IntKind.u8 (0 : Int),
  Value.int IntKind.u8 (0 : Int), Value.int IntKind.u8 (0 : Int), Value.int IntKind.u8 (0 : Int), Value.int IntKind.u8 (IntKind.wrap IntKind.u8 (cellI (gC enU g.1) 0)),
  Value.int IntKind.u8 (IntKind.wrap IntKind.u8 (ishr IntKind.u32 (cellI (gC enU g.1) 0) (8 : Int))), Value.int IntKind.u8 (IntKind.wrap IntKind.u8 (ishr IntKind.u32 (cellI
  (gC enU g.1) 0) (16 : Int))), Value.int IntKind.u8 (IntKind.wrap IntKind.u8 (ishr IntKind.u32 (cellI (gC enU g.1) 0) (24 : Int))), Value.int IntKind.u8 (1 : Int),
  Value.int IntKind.u8 (2 : Int), Value.int IntKind.u8 (3 : Int), Value.int IntKind.u8 (4 : Int)] 6)))) /\ ((Eq (α := Option Value) (some (Value.int IntKind.u8 (0 : Int)))
  (some (Value.int IntKind.u8 (cellI [Value.int IntKind.u8 (0 : Int), Value.int IntKind.u8 (0 : Int), Value.int IntKind.u8 (8 : Int), Value.int IntKind.u8 (6 : Int),
  Value.int IntKind.u8 (0 : Int), Value.int IntKind.u8 (0 : Int), Value.int IntKind.u8 (0 : Int), Value.int IntKind.u8 (0 : Int), Value.int IntKind.u8 (0 : Int), Value.int
  IntKind.u8 (IntKind.wrap IntKind.u8 (cellI (gC enU g.1) 0)), Value.int IntKind.u8 (IntKind.wrap IntKind.u8 (ishr IntKind.u32 (cellI (gC enU g.1) 0) (8 : Int))), Value.int
  IntKind.u8 (IntKind.wrap IntKind.u8 (ishr IntKind.u32 (cellI (gC enU g.1) 0) (16 : Int))), Value.int IntKind.u8 (IntKind.wrap IntKind.u8 (ishr IntKind.u32 (cellI (gC enU
  g.1) 0) (24 : Int))), Value.int IntKind.u8 (1 : Int), Value.int IntKind.u8 (2 : Int), Value.int IntKind.u8 (3 : Int), Value.int IntKind.u8 (4 : Int)] 7)))) /\ ((Eq (α :=
  Option Value) (some (Value.int IntKind.u8 (0 : Int))) (some (Value.int IntKind.u8 (cellI [Value.int IntKind.u8 (0 : Int), Value.int IntKind.u8 (0 : Int), Value.int
  IntKind.u8 (8 : Int), Value.int IntKind.u8 (6 : Int), Value.int IntKind.u8 (0 : Int), Value.int IntKind.u8 (0 : Int), Value.int IntKind.u8 (0 : Int), Value.int IntKind.u8
  (0 : Int), Value.int IntKind.u8 (0 : Int), Value.int IntKind.u8 (IntKind.wrap IntKind.u8 (cellI (gC enU g.1) 0)), Value.int IntKind.u8 (IntKind.wrap IntKind.u8 (ishr
  IntKind.u32 (cellI (gC enU g.1) 0) (8 : Int))), Value.int IntKind.u8 (IntKind.wrap IntKind.u8 (ishr IntKind.u32 (cellI (gC enU g.1) 0) (16 : Int))), Value.int IntKind.u8
  (IntKind.wrap IntKind.u8 (ishr IntKind.u32 (cellI (gC enU g.1) 0) (24 : Int))), Value.int IntKind.u8 (1 : Int), Value.int IntKind.u8 (2 : Int), Value.int IntKind.u8 (3 :
  Int), Value.int IntKind.u8 (4 : Int)] 8)))) /\ ((Eq (α := Option Value) (some (Value.int IntKind.u8 (0 : Int))) (some (Value.int IntKind.u8 (cellI [Value.int IntKind.u8 (0
  : Int), Value.int IntKind.u8 (0 : Int), Value.int IntKind.u8 (8 : Int), Value.int IntKind.u8 (6 : Int), Value.int IntKind.u8 (0 : Int), Value.int IntKind.u8 (0 : Int),
  Value.int IntKind.u8 (0 : Int), Value.int IntKind.u8 (0 : Int), Value.int IntKind.u8 (0 : Int), Value.int IntKind.u8 (IntKind.wrap IntKind.u8 (cellI (gC enU g.1) 0)),
  Value.int IntKind.u8 (IntKind.wrap IntKind.u8 (ishr IntKind.u32 (cellI (gC enU g.1) 0) (8 : Int))), Value.int IntKind.u8 (IntKind.wrap IntKind.u8 (ishr IntKind.u32 (cellI
  (gC enU g.1) 0) (16 : Int))), Value.int IntKind.u8 (IntKind.wrap IntKind.u8 (ishr IntKind.u32 (cellI (gC enU g.1) 0) (24 : Int))), Value.int IntKind.u8 (1 : Int),
  Value.int IntKind.u8 (2 : Int), Value.int IntKind.u8 (3 : Int), Value.int IntKind.u8 (4 : Int)] 5)))) /\ ((Eq (α := Option Value) (some (Value.int IntKind.u8 (0 : Int)))
  (some (Value.int IntKind.u8 (cellI [Value.int IntKind.u8 (0 : Int), Value.int IntKind.u8 (0 : Int), Value.int IntKind.u8 (8 : Int), Value.int IntKind.u8 (6 : Int),
  Value.int IntKind.u8 (0 : Int), Value.int IntKind.u8 (0 : Int), Value.int IntKind.u8 (0 : Int), Value.int IntKind.u8 (0 : Int), Value.int IntKind.u8 (0 : Int), Value.int
  IntKind.u8 (IntKind.wrap IntKind.u8 (cellI (gC enU g.1) 0)), Value.int IntKind.u8 (IntKind.wrap IntKind.u8 (ishr IntKind.u32 (cellI (gC enU g.1) 0) (8 : Int))), Value.int
  IntKind.u8 (IntKind.wrap IntKind.u8 (ishr IntKind.u32 (cellI (gC enU g.1) 0) (16 : Int))), Value.int IntKind.u8 (IntKind.wrap IntKind.u8 (ishr IntKind.u32 (cellI (gC enU
  g.1) 0) (24 : Int))), Value.int IntKind.u8 (1 : Int), Value.int IntKind.u8 (2 : Int), Value.int IntKind.u8 (3 : Int), Value.int IntKind.u8 (4 : Int)] 6)))) /\ ((Eq (α :=
  Option Value) (some (Value.int IntKind.u8 (0 : Int))) (some (Value.int IntKind.u8 (cellI [Value.int IntKind.u8 (0 : Int), Value.int IntKind.u8 (0 : Int), Value.int
  IntKind.u8 (8 : Int), Value.int IntKind.u8 (6 : Int), Value.int IntKind.u8 (0 : Int), Value.int IntKind.u8 (0 : Int), Value.int IntKind.u8 (0 : Int), Value.int IntKind.u8
  (0 : Int), Value.int IntKind.u8 (0 : Int), Value.int IntKind.u8 (IntKind.wrap IntKind.u8 (cellI (gC enU g.1) 0)), Value.int IntKind.u8 (IntKind.wrap IntKind.u8 (ishr
  IntKind.u32 (cellI (gC enU g.1) 0) (8 : Int))), Value.int IntKind.u8 (IntKind.wrap IntKind.u8 (ishr IntKind.u32 (cellI (gC enU g.1) 0) (16 : Int))), Value.int IntKind.u8
  (IntKind.wrap IntKind.u8 (ishr IntKind.u32 (cellI (gC enU g.1) 0) (24 : Int))), Value.int IntKind.u8 (1 : Int), Value.int IntKind.u8 (2 : Int), Value.int IntKind.u8 (3 :
  Int), Value.int IntKind.u8 (4 : Int)] 7)))) /\ ((Eq (α := Option Value) (some (Value.int IntKind.u8 (0 : Int))) (some (Value.int IntKind.u8 (cellI [Value.int IntKind.u8 (0
  : Int), Value.int IntKind.u8 (0 : Int), Value.int IntKind.u8 (8 : Int), Value.int IntKind.u8 (6 : Int), Value.int IntKind.u8 (0 : Int), Value.int IntKind.u8 (0 : Int),
  Value.int IntKind.u8 (0 : Int), Value.int IntKind.u8 (0 : Int), Value.int IntKind.u8 (0 : Int), Value.int IntKind.u8 (IntKind.wrap IntKind.u8 (cellI (gC enU g.1) 0)),
  Value.int IntKind.u8 (IntKind.wrap IntKind.u8 (ishr IntKind.u32 (cellI (gC enU g.1) 0) (8 : Int))), Value.int IntKind.u8 (IntKind.wrap IntKind.u8 (ishr IntKind.u32 (cellI
  (gC enU g.1) 0) (16 : Int))), Value.int IntKind.u8 (IntKind.wrap IntKind.u8 (ishr IntKind.u32 (cellI (gC enU g.1) 0) (24 : Int))), Value.int IntKind.u8 (1 : Int),
  Value.int IntKind.u8 (2 : Int), Value.int IntKind.u8 (3 : Int), Value.int IntKind.u8 (4 : Int)] 8)))) /\ ((Eq (α := Option Value) (some (Value.int IntKind.u8 (6 : Int)))
  (some (Value.int IntKind.u8 (cellI [Value.int IntKind.u8 (0 : Int), Value.int IntKind.u8 (0 : Int), Value.int IntKind.u8 (8 : Int), Value.int IntKind.u8 (6 : Int),
  Value.int IntKind.u8 (0 : Int), Value.int IntKind.u8 (0 : Int), Value.int IntKind.u8 (0 : Int), Value.int IntKind.u8 (0 : Int), Value.int IntKind.u8 (0 : Int), Value.int
  IntKind.u8 (IntKind.wrap IntKind.u8 (cellI (gC enU g.1) 0)), Value.int IntKind.u8 (IntKind.wrap IntKind.u8 (ishr IntKind.u32 (cellI (gC enU g.1) 0) (8 : Int))), Value.int
  IntKind.u8 (IntKind.wrap IntKind.u8 (ishr IntKind.u32 (cellI (gC enU g.1) 0) (16 : Int))), Value.int IntKind.u8 (IntKind.wrap IntKind.u8 (ishr IntKind.u32 (cellI (gC enU
  g.1) 0) (24 : Int))), Value.int IntKind.u8 (1 : Int), Value.int IntKind.u8 (2 : Int), Value.int IntKind.u8 (3 : Int), Value.int IntKind.u8 (4 : Int)] 3)))) /\ ((Eq (α :=
  Option Value) (some (Value.int IntKind.u8 (0 : Int))) (some (Value.int IntKind.u8 (cellI [Value.int IntKind.u8 (0 : Int), Value.int IntKind.u8 (0 : Int), Value.int
  IntKind.u8 (8 : Int), Value.int IntKind.u8 (6 : Int), Value.int IntKind.u8 (0 : Int), Value.int IntKind.u8 (0 : Int), Value.int IntKind.u8 (0 : Int), Value.int IntKind.u8
  (0 : Int), Value.int IntKind.u8 (0 : Int), Value.int IntKind.u8 (IntKind.wrap IntKind.u8 (cellI (gC enU g.1) 0)), Value.int IntKind.u8 (IntKind.wrap IntKind.u8 (ishr
  IntKind.u32 (cellI (gC enU g.1) 0) (8 : Int))), Value.int IntKind.u8 (IntKind.wrap IntKind.u8 (ishr IntKind.u32 (cellI (gC enU g.1) 0) (16 : Int))), Value.int IntKind.u8
  (IntKind.wrap IntKind.u8 (ishr IntKind.u32 (cellI (gC enU g.1) 0) (24 : Int))), Value.int IntKind.u8 (1 : Int), Value.int IntKind.u8 (2 : Int), Value.int IntKind.u8 (3 :
  Int), Value.int IntKind.u8 (4 : Int)] 4)))) /\ ((Eq (α := Option Value) (some (Value.int IntKind.u8 (6 : Int))) (some (Value.int IntKind.u8 (cellI [Value.int IntKind.u8 (0
  : Int), Value.int IntKind.u8 (0 : Int), Value.int IntKind.u8 (8 : Int), Value.int IntKind.u8 (6 : Int), Value.int IntKind.u8 (0 : Int), Value.int IntKind.u8 (0 : Int),
  Value.int IntKind.u8 (0 : Int), Value.int IntKind.u8 (0 : Int), Value.int IntKind.u8 (0 : Int), Value.int IntKind.u8 (IntKind.wrap IntKind.u8 (cellI (gC enU g.1) 0)),
  Value.int IntKind.u8 (IntKind.wrap IntKind.u8 (ishr IntKind.u32 (cellI (gC enU g.1) 0) (8 : Int))), Value.int IntKind.u8 (IntKind.wrap IntKind.u8 (ishr IntKind.u32 (cellI
  (gC enU g.1) 0) (16 : Int))), Value.int IntKind.u8 (IntKind.wrap IntKind.u8 (ishr IntKind.u32 (cellI (gC enU g.1) 0) (24 : Int))), Value.int IntKind.u8 (1 : Int),
  Value.int IntKind.u8 (2 : Int), Value.int IntKind.u8 (3 : Int), Value.int IntKind.u8 (4 : Int)] 3)))) /\ ((Eq (α := Option Value) (some (Value.int IntKind.u8 (6 : Int)))
  (some (Value.int IntKind.u8 (cellI [Value.int IntKind.u8 (0 : Int), Value.int IntKind.u8 (0 : Int), Value.int IntKind.u8 (8 : Int), Value.int IntKind.u8 (6 : Int),
  Value.int IntKind.u8 (0 : Int), Value.int IntKind.u8 (0 : Int), Value.int IntKind.u8 (0 : Int), Value.int IntKind.u8 (0 : Int), Value.int IntKind.u8 (0 : Int), Value.int
  IntKind.u8 (IntKind.wrap IntKind.u8 (cellI (gC enU g.1) 0)), Value.int IntKind.u8 (IntKind.wrap IntKind.u8 (ishr IntKind.u32 (cellI (gC enU g.1) 0) (8 : Int))), Value.int
  IntKind.u8 (IntKind.wrap IntKind.u8 (ishr IntKind.u32 (cellI (gC enU g.1) 0) (16 : Int))), Value.int IntKind.u8 (IntKind.wrap IntKind.u8 (ishr IntKind.u32 (cellI (gC enU
  g.1) 0) (24 : Int))), Value.int IntKind.u8 (1 : Int), Value.int IntKind.u8 (2 : Int), Value.int IntKind.u8 (3 : Int), Value.int IntKind.u8 (4 : Int)] 3)))) /\ ((Eq (α :=
  Option Value) (some (Value.int IntKind.u8 (0 : Int))) (some (Value.int IntKind.u8 (cellI [Value.int IntKind.u8 (0 : Int), Value.int IntKind.u8 (0 : Int), Value.int
  IntKind.u8 (8 : Int), Value.int IntKind.u8 (6 : Int), Value.int IntKind.u8 (0 : Int), Value.int IntKind.u8 (0 : Int), Value.int IntKind.u8 (0 : Int), Value.int IntKind.u8
  (0 : Int), Value.int IntKind.u8 (0 : Int), Value.int IntKind.u8 (IntKind.wrap IntKind.u8 (cellI (gC enU g.1) 0)), Value.int IntKind.u8 (IntKind.wrap IntKind.u8 (ishr
  IntKind.u32 (cellI (gC enU g.1) 0) (8 : Int))), Value.int IntKind.u8 (IntKind.wrap IntKind.u8 (ishr IntKind.u32 (cellI (gC enU g.1) 0) (16 : Int))), Value.int IntKind.u8
  (IntKind.wrap IntKind.u8 (ishr IntKind.u32 (cellI (gC enU g.1) 0) (24 : Int))), Value.int IntKind.u8 (1 : Int), Value.int IntKind.u8 (2 : Int), Value.int IntKind.u8 (3 :
  Int), Value.int IntKind.u8 (4 : Int)] 4)))) /\ ((Eq (α := Option Value) (some (Value.int IntKind.u8 (0 : Int))) (some (Value.int IntKind.u8 (cellI [Value.int IntKind.u8 (0
  : Int), Value.int IntKind.u8 (0 : Int), Value.int IntKind.u8 (8 : Int), Value.int IntKind.u8 (6 : Int), Value.int IntKind.u8 (0 : Int), Value.int IntKind.u8 (0 : Int),
  Value.int IntKind.u8 (0 : Int), Value.int IntKind.u8 (0 : Int), Value.int IntKind.u8 (0 : Int), Value.int IntKind.u8 (IntKind.wrap IntKind.u8 (cellI (gC enU g.1) 0)),
  Value.int IntKind.u8 (IntKind.wrap IntKind.u8 (ishr IntKind.u32 (cellI (gC enU g.1) 0) (8 : Int))), Value.int IntKind.u8 (IntKind.wrap IntKind.u8 (ishr IntKind.u32 (cellI
  (gC enU g.1) 0) (16 : Int))), Value.int IntKind.u8 (IntKind.wrap IntKind.u8 (ishr IntKind.u32 (cellI (gC enU g.1) 0) (24 : Int))), Value.int IntKind.u8 (1 : Int),
  Value.int IntKind.u8 (2 : Int), Value.int IntKind.u8 (3 : Int), Value.int IntKind.u8 (4 : Int)] 4)))) /\ (∃ j : PS, ((Inv j) /\ ((m j < m s) /\ ((0 = 0) /\ ((List.length
  g.1 = List.length g.1) /\ ((0 = 0) /\ ((List.length g.2 = List.length g.2) /\ ((0 = 0) /\ ((0 = 0) /\ ((List.length j.2 = 17) /\ (((↑j.1 : Int) = (1 : Int)) /\ ((Eq (α :=
  List Value) (gC enU g.1) (gC enU g.1)) /\ ((Plain (gC enU g.1)) /\ ((Eq (α := List Value) (gC enB g.2) (gC enB g.2)) /\ ((Plain (gC enB g.2)) /\ ((true = true) /\ (((2 :
  Int) = (2 : Int)) /\ (((65535 : Int) = (65535 : Int)) /\ (((65536 : Int) = (65536 : Int)) /\ (((4096 : Int) = (4096 : Int)) /\ (((2147483647 : Int) = (2147483647 : Int))
  /\ (((65535 : Int) = (65535 : Int)) /\ (((16384 : Int) = (16384 : Int)) /\ (((2147483647 : Int) = (2147483647 : Int)) /\ ((j.4 = 0) /\ ((List.length j.2 = 17) /\ ((0 = 0)
  /\ ((0 = 0) /\ ((0 = 0) /\ (((65535 : Int) = (65535 : Int)) /\ (((65535 : Int) = (65535 : Int)) /\ (((0 : Int) = (0 : Int)) /\ (((1 : Int) = (1 : Int)) /\ ((true = true)
  /\ ((false = false) /\ ((false = false) /\ ((false = false) /\ ((false = false) /\ (((0 : Int) = (0 : Int)) /\ ((false = false) /\ ((Eq (α := List Value) (bCells j.3)
  ([Value.int IntKind.u8 (IntKind.wrap IntKind.u8 (ishr IntKind.i64 (Int.ofNat 8) (16 : Int))), Value.int IntKind.u8 (IntKind.wrap IntKind.u8 (ishr IntKind.i64 (Int.ofNat 8)
  (8 : Int))), Value.int IntKind.u8 (IntKind.wrap IntKind.u8 (Int.ofNat 8)), Value.int IntKind.u8 (6 : Int), Value.int IntKind.u8 (1 : Int), Value.int IntKind.u8 (0 : Int),
  Value.int IntKind.u8 (0 : Int), Value.int IntKind.u8 (0 : Int), Value.int IntKind.u8 (0 : Int), Value.int IntKind.u8 (IntKind.wrap IntKind.u8 (cellI (gC enU g.1) 0)),
  Value.int IntKind.u8 (IntKind.wrap IntKind.u8 (ishr IntKind.u32 (cellI (gC enU g.1) 0) (8 : Int))), Value.int IntKind.u8 (IntKind.wrap IntKind.u8 (ishr IntKind.u32 (cellI
  (gC enU g.1) 0) (16 : Int))), Value.int IntKind.u8 (IntKind.wrap IntKind.u8 (ishr IntKind.u32 (cellI (gC enU g.1) 0) (24 : Int))), Value.int IntKind.u8 (1 : Int),
  Value.int IntKind.u8 (2 : Int), Value.int IntKind.u8 (3 : Int), Value.int IntKind.u8 (4 : Int)])) /\ ((Plain (bCells j.3)) /\ ((17 = 17) /\ ((0 = 0) /\ (((16384 : Int) =
  (16384 : Int)) /\ ((ByteArray.mk #[] = ByteArray.mk #[]) /\ (((0 : Int) = (0 : Int)) /\ (((0 : Int) = (0 : Int)) /\ (((0 : Int) = (0 : Int)) /\ ((Eq (α := List Value)
  ([Value.int IntKind.u8 (0 : Int), Value.int IntKind.u8 (0 : Int), Value.int IntKind.u8 (8 : Int), Value.int IntKind.u8 (6 : Int), Value.int IntKind.u8 j.5, Value.int
  IntKind.u8 (0 : Int), Value.int IntKind.u8 (0 : Int), Value.int IntKind.u8 (0 : Int), Value.int IntKind.u8 (0 : Int), Value.int IntKind.u8 j.6, Value.int IntKind.u8 j.7,
  Value.int IntKind.u8 j.8, Value.int IntKind.u8 j.9, Value.int IntKind.u8 (1 : Int), Value.int IntKind.u8 (2 : Int), Value.int IntKind.u8 (3 : Int), Value.int IntKind.u8 (4
  : Int)]) ([Value.int IntKind.u8 (0 : Int), Value.int IntKind.u8 (0 : Int), Value.int IntKind.u8 (8 : Int), Value.int IntKind.u8 (6 : Int), Value.int IntKind.u8 (0 : Int),
  Value.int IntKind.u8 (0 : Int), Value.int IntKind.u8 (0 : Int), Value.int IntKind.u8 (0 : Int), Value.int IntKind.u8 (0 : Int), Value.int IntKind.u8 (IntKind.wrap
  IntKind.u8 (cellI (gC enU g.1) 0)), Value.int IntKind.u8 (IntKind.wrap IntKind.u8 (ishr IntKind.u32 (cellI (gC enU g.1) 0) (8 : Int))), Value.int IntKind.u8 (IntKind.wrap
  IntKind.u8 (ishr IntKind.u32 (cellI (gC enU g.1) 0) (16 : Int))), Value.int IntKind.u8 (IntKind.wrap IntKind.u8 (ishr IntKind.u32 (cellI (gC enU g.1) 0) (24 : Int))),
  Value.int IntKind.u8 (1 : Int), Value.int IntKind.u8 (2 : Int), Value.int IntKind.u8 (3 : Int), Value.int IntKind.u8 (4 : Int)])) /\ ((Plain [Value.int IntKind.u8 (0 :
  Int), Value.int IntKind.u8 (0 : Int), Value.int IntKind.u8 (8 : Int), Value.int IntKind.u8 (6 : Int), Value.int IntKind.u8 j.5, Value.int IntKind.u8 (0 : Int), Value.int
  IntKind.u8 (0 : Int), Value.int IntKind.u8 (0 : Int), Value.int IntKind.u8 (0 : Int), Value.int IntKind.u8 j.6, Value.int IntKind.u8 j.7, Value.int IntKind.u8 j.8,
  Value.int IntKind.u8 j.9, Value.int IntKind.u8 (1 : Int), Value.int IntKind.u8 (2 : Int), Value.int IntKind.u8 (3 : Int), Value.int IntKind.u8 (4 : Int)]) /\ ((Eq (α :=
  List Value) (bCells j.2) ([Value.int IntKind.u8 (0 : Int), Value.int IntKind.u8 (0 : Int), Value.int IntKind.u8 (8 : Int), Value.int IntKind.u8 (6 : Int), Value.int
  IntKind.u8 (1 : Int), Value.int IntKind.u8 (0 : Int), Value.int IntKind.u8 (0 : Int), Value.int IntKind.u8 (0 : Int), Value.int IntKind.u8 (0 : Int), Value.int IntKind.u8
  (IntKind.wrap IntKind.u8 (cellI (gC enU g.1) 0)), Value.int IntKind.u8 (IntKind.wrap IntKind.u8 (ishr IntKind.u32 (cellI (gC enU g.1) 0) (8 : Int))), Value.int IntKind.u8
  (IntKind.wrap IntKind.u8 (ishr IntKind.u32 (cellI (gC enU g.1) 0) (16 : Int))), Value.int IntKind.u8 (IntKind.wrap IntKind.u8 (ishr IntKind.u32 (cellI (gC enU g.1) 0) (24
  : Int))), Value.int IntKind.u8 (1 : Int), Value.int IntKind.u8 (2 : Int), Value.int IntKind.u8 (3 : Int), Value.int IntKind.u8 (4 : Int)])) /\ ((Plain (bCells j.2)) /\ ((0
  = 0) /\ (((4096 : Int) = (4096 : Int)) /\ (((65536 : Int) = (65536 : Int)) /\ ((false = false) /\ ((0 = 0) /\ ((false = false) /\ (((0 : Int) = (0 : Int)) /\ (((0 : Int) =
  (0 : Int)) /\ (((4096 : Int) = (4096 : Int)) /\ (((0 : Int) = (0 : Int)) /\ (((4096 : Int) = (4096 : Int)) /\
  True))))))))))))))))))))))))))))))))))))))))))))))))))))))))))))))))))))))))))))))))))))) False) False)) False) False)) False) False)) False) False))) False)) False))
  False)) False) (∃ y : PX, ((okS y) /\ ((0 = 0) /\ ((0 = 0) /\ ((List.length y.1 = 0) /\ ((Eq (α := List Value) (gC enU g.1) (gC enU g.1)) /\ ((Plain (gC enU g.1)) /\ ((Eq
  (α := List Value) (gC enB g.2) (gC enB g.2)) /\ ((Plain (gC enB g.2)) /\ ((true = true) /\ (((2 : Int) = (2 : Int)) /\ (((65535 : Int) = (65535 : Int)) /\ (((65536 : Int)
  = (65536 : Int)) /\ (((4096 : Int) = (4096 : Int)) /\ (((2147483647 : Int) = (2147483647 : Int)) /\ (((65535 : Int) = (65535 : Int)) /\ (((16384 : Int) = (16384 : Int)) /\
  (((2147483647 : Int) = (2147483647 : Int)) /\ ((y.3 = 36) /\ ((List.length y.1 = 0) /\ ((0 = 0) /\ ((0 = 0) /\ ((0 = 0) /\ (((65535 : Int) = (65535 : Int)) /\ (((65535 :
  Int) = (65535 : Int)) /\ (((0 : Int) = (0 : Int)) /\ (((1 : Int) = (1 : Int)) /\ ((true = true) /\ ((false = false) /\ ((false = false) /\ ((false = false) /\ ((false =
  false) /\ (((0 : Int) = (0 : Int)) /\ ((false = false) /\ ((Eq (α := List Value) (bCells y.2) ([Value.int IntKind.u8 (0 : Int), Value.int IntKind.u8 (0 : Int), Value.int
  IntKind.u8 (18 : Int), Value.int IntKind.u8 (4 : Int), Value.int IntKind.u8 (0 : Int), Value.int IntKind.u8 (0 : Int), Value.int IntKind.u8 (0 : Int), Value.int IntKind.u8
  (0 : Int), Value.int IntKind.u8 (0 : Int), Value.int IntKind.u8 (0 : Int), Value.int IntKind.u8 (3 : Int), Value.int IntKind.u8 (0 : Int), Value.int IntKind.u8 (0 : Int),
  Value.int IntKind.u8 (0 : Int), Value.int IntKind.u8 (2 : Int), Value.int IntKind.u8 (0 : Int), Value.int IntKind.u8 (4 : Int), Value.int IntKind.u8 (0 : Int), Value.int
  IntKind.u8 (0 : Int), Value.int IntKind.u8 (255 : Int), Value.int IntKind.u8 (255 : Int), Value.int IntKind.u8 (0 : Int), Value.int IntKind.u8 (6 : Int), Value.int
  IntKind.u8 (0 : Int), Value.int IntKind.u8 (1 : Int), Value.int IntKind.u8 (0 : Int), Value.int IntKind.u8 (0 : Int), Value.int IntKind.u8 (0 : Int), Value.int IntKind.u8
  (0 : Int), Value.int IntKind.u8 (0 : Int), Value.int IntKind.u8 (4 : Int), Value.int IntKind.u8 (1 : Int), Value.int IntKind.u8 (0 : Int), Value.int IntKind.u8 (0 : Int),
  Value.int IntKind.u8 (0 : Int), Value.int IntKind.u8 (0 : Int)])) /\ ((Plain (bCells y.2)) /\ ((y.5 = 9) /\ ((0 = 0) /\ (((16384 : Int) = (16384 : Int)) /\ ((ByteArray.mk
  #[] = ByteArray.mk #[]) /\ (((0 : Int) = (0 : Int)) /\ (((0 : Int) = (0 : Int)) /\ (((0 : Int) = (0 : Int)) /\ ((Eq (α := List Value) (y.4) ([Value.int IntKind.u8 (0 :
  Int), Value.int IntKind.u8 (0 : Int), Value.int IntKind.u8 (0 : Int), Value.int IntKind.u8 (4 : Int), Value.int IntKind.u8 (0 : Int), Value.int IntKind.u8 (0 : Int),
  Value.int IntKind.u8 (0 : Int), Value.int IntKind.u8 (0 : Int), Value.int IntKind.u8 (0 : Int)])) /\ ((Plain y.4) /\ ((Eq (α := List Value) (bCells y.1) ([])) /\ ((Plain
  (bCells y.1)) /\ ((0 = 0) /\ (((4096 : Int) = (4096 : Int)) /\ (((65536 : Int) = (65536 : Int)) /\ ((false = false) /\ ((0 = 0) /\ ((false = false) /\ (((0 : Int) = (0 :
  Int)) /\ (((0 : Int) = (0 : Int)) /\ (((4096 : Int) = (4096 : Int)) /\ (((0 : Int) = (0 : Int)) /\ (((4096 : Int) = (4096 : Int)) /\
  True))))))))))))))))))))))))))))))))))))))))))))))))))))))))))) := by kernel_rfl
theorem P_round (g : GP) (s : PS) (Inv : PS → Prop) (m : PS → Nat) : mev ECp noM 400 7 (0 :: pP) false (codeOf Tryz.prog 7 (0 :: pP)) ⟨mkOv (slP g s.i s.w.length), 83, []⟩ none ⟨mkR (rlP g s), 11⟩ (roundK 2 11 83 Inv m (fun s : PS => slP g s.i s.w.length) (rlP g) (wsP g) s) =
  (br (decide ((↑s.1 : Int) < Int.ofNat (List.length g.1))) (br (decide ((↑s.1 : Int) < (50 : Int))) (br (decide ((0 : Int) <= (↑s.1 : Int) /\ (↑s.1 : Int) < (↑(List.length
  g.1) : Int))) ((Eq (α := Option Value) ((gC enU g.1)[0 + Int.toNat (↑s.1 : Int) * 1]?) (some (Value.int IntKind.u32 (cellI (gC enU g.1) (0 + Int.toNat (↑s.1 : Int) *
  1))))) /\ (br (decide ((0 : Int) <= (↑s.1 : Int) /\ (↑s.1 : Int) < (↑(List.length g.1) : Int))) ((Eq (α := Option Value) ((gC enU g.1)[0 + Int.toNat (↑s.1 : Int) * 1]?)
  (some (Value.int IntKind.u32 (cellI (gC enU g.1) (0 + Int.toNat (↑s.1 : Int) * 1))))) /\ (br (decide ((0 : Int) <= (↑s.1 : Int) /\ (↑s.1 : Int) < (↑(List.length g.1) :
  Int))) ((Eq (α := Option Value) ((gC enU g.1)[0 + Int.toNat (↑s.1 : Int) * 1]?) (some (Value.int IntKind.u32 (cellI (gC enU g.1) (0 + Int.toNat (↑s.1 : Int) * 1))))) /\
  (br (decide ((0 : Int) <= (↑s.1 : Int) /\ (↑s.1 : Int) < (↑(List.length g.1) : Int))) ((Eq (α := Option Value) ((gC enU g.1)[0 + Int.toNat (↑s.1 : Int) * 1]?) (some
  (Value.int IntKind.u32 (cellI (gC enU g.1) (0 + Int.toNat (↑s.1 : Int) * 1))))) /\ ((Eq (α := Option Value) ((gC enU g.1)[0 + Int.toNat (↑s.1 : Int) * 1]?) (some
  (Value.int IntKind.u32 (cellI (gC enU g.1) (0 + Int.toNat (↑s.1 : Int) * 1))))) /\ (br (veq 20 (Value.int IntKind.u32 (cellI (gC enU g.1) (0 + Int.toNat (↑s.1 : Int) *
  1))) (Value.int IntKind.u32 (cellI (gC enU g.1) (0 + Int.toNat (↑s.1 : Int) * 1)))) (br (veq 20 (Value.int IntKind.u8 (IntKind.wrap IntKind.u8 (cellI (gC enU g.1) (0 +
  Int.toNat (↑s.1 : Int) * 1)))) (Value.int IntKind.u8 (IntKind.wrap IntKind.u8 (cellI (gC enU g.1) (0 + Int.toNat (↑s.1 : Int) * 1))))) ((Eq (α := Option Value) ((gC enU
  g.1)[0 + Int.toNat (↑s.1 : Int) * 1]?) (some (Value.int IntKind.u32 (cellI (gC enU g.1) (0 + Int.toNat (↑s.1 : Int) * 1))))) /\ (br (veq 20 (Value.int IntKind.u32 (cellI
  (gC enU g.1) (0 + Int.toNat (↑s.1 : Int) * 1))) (Value.int IntKind.u32 (cellI (gC enU g.1) (0 + Int.toNat (↑s.1 : Int) * 1)))) (br (veq 20 (Value.int IntKind.u8
  (IntKind.wrap IntKind.u8 (ishr IntKind.u32 (cellI (gC enU g.1) (0 + Int.toNat (↑s.1 : Int) * 1)) (8 : Int)))) (Value.int IntKind.u8 (IntKind.wrap IntKind.u8 (ishr
  IntKind.u32 (cellI (gC enU g.1) (0 + Int.toNat (↑s.1 : Int) * 1)) (8 : Int))))) ((Eq (α := Option Value) ((gC enU g.1)[0 + Int.toNat (↑s.1 : Int) * 1]?) (some (Value.int
  IntKind.u32 (cellI (gC enU g.1) (0 + Int.toNat (↑s.1 : Int) * 1))))) /\ (br (veq 20 (Value.int IntKind.u32 (cellI (gC enU g.1) (0 + Int.toNat (↑s.1 : Int) * 1)))
  (Value.int IntKind.u32 (cellI (gC enU g.1) (0 + Int.toNat (↑s.1 : Int) * 1)))) (br (veq 20 (Value.int IntKind.u8 (IntKind.wrap IntKind.u8 (ishr IntKind.u32 (cellI (gC enU
  g.1) (0 + Int.toNat (↑s.1 : Int) * 1)) (16 : Int)))) (Value.int IntKind.u8 (IntKind.wrap IntKind.u8 (ishr IntKind.u32 (cellI (gC enU g.1) (0 + Int.toNat (↑s.1 : Int) * 1))
  (16 : Int))))) ((Eq (α := Option Value) ((gC enU g.1)[0 + Int.toNat (↑s.1 : Int) * 1]?) (some (Value.int IntKind.u32 (cellI (gC enU g.1) (0 + Int.toNat (↑s.1 : Int) *
  1))))) /\ (br (veq 20 (Value.int IntKind.u32 (cellI (gC enU g.1) (0 + Int.toNat (↑s.1 : Int) * 1))) (Value.int IntKind.u32 (cellI (gC enU g.1) (0 + Int.toNat (↑s.1 : Int)
  * 1)))) (br (veq 20 (Value.int IntKind.u8 (IntKind.wrap IntKind.u8 (ishr IntKind.u32 (cellI (gC enU g.1) (0 + Int.toNat (↑s.1 : Int) * 1)) (24 : Int)))) (Value.int
  IntKind.u8 (IntKind.wrap IntKind.u8 (ishr IntKind.u32 (cellI (gC enU g.1) (0 + Int.toNat (↑s.1 : Int) * 1)) (24 : Int))))) (br (decide ((↑s.1 : Int) < Int.ofNat
  (List.length g.2))) (br (decide ((0 : Int) <= (↑s.1 : Int) /\ (↑s.1 : Int) < (↑(List.length g.2) : Int))) ((Eq (α := Option Value) ((gC enB g.2)[0 + Int.toNat (↑s.1 : Int)
  * 1]?) (some (Value.bool (cellB (gC enB g.2) (0 + Int.toNat (↑s.1 : Int) * 1))))) /\ (br (cellB (gC enB g.2) (0 + Int.toNat (↑s.1 : Int) * 1)) ((Eq (α := Option Value)
  (some (Value.int IntKind.u8 (0 : Int))) (some (Value.int IntKind.u8 (cellI [Value.int IntKind.u8 (0 : Int), Value.int IntKind.u8 (0 : Int), Value.int IntKind.u8 (8 : Int),
  Value.int IntKind.u8 (6 : Int), Value.int IntKind.u8 (1 : Int), Value.int IntKind.u8 (0 : Int), Value.int IntKind.u8 (0 : Int), Value.int IntKind.u8 (0 : Int), Value.int
  IntKind.u8 (0 : Int), Value.int IntKind.u8 (IntKind.wrap IntKind.u8 (cellI (gC enU g.1) (0 + Int.toNat (↑s.1 : Int) * 1))), Value.int IntKind.u8 (IntKind.wrap IntKind.u8
  (ishr IntKind.u32 (cellI (gC enU g.1) (0 + Int.toNat (↑s.1 : Int) * 1)) (8 : Int))), Value.int IntKind.u8 (IntKind.wrap IntKind.u8 (ishr IntKind.u32 (cellI (gC enU g.1) (0
  + Int.toNat (↑s.1 : Int) * 1)) (16 : Int))), Value.int IntKind.u8 (IntKind.wrap IntKind.u8 (ishr IntKind.u32 (cellI (gC enU g.1) (0 + Int.toNat (↑s.1 : Int) * 1)) (24 :
  Int))), Value.int IntKind.u8 (1 : Int), Value.int IntKind.u8 (2 : Int), Value.int IntKind.u8 (3 : Int), Value.int IntKind.u8 (4 : Int)] 0)))) /\ ((Eq (α := Option Value)
  (some (Value.int IntKind.u8 (0 : Int))) (some (Value.int IntKind.u8 (cellI [Value.int IntKind.u8 (0 : Int), Value.int IntKind.u8 (0 : Int), Value.int IntKind.u8 (8 : Int),
  Value.int IntKind.u8 (6 : Int), Value.int IntKind.u8 (1 : Int), Value.int IntKind.u8 (0 : Int), Value.int IntKind.u8 (0 : Int), Value.int IntKind.u8 (0 : Int), Value.int
  IntKind.u8 (0 : Int), Value.int IntKind.u8 (IntKind.wrap IntKind.u8 (cellI (gC enU g.1) (0 + Int.toNat (↑s.1 : Int) * 1))), Value.int IntKind.u8 (IntKind.wrap IntKind.u8
  (ishr IntKind.u32 (cellI (gC enU g.1) (0 + Int.toNat (↑s.1 : Int) * 1)) (8 : Int))), Value.int IntKind.u8 (IntKind.wrap IntKind.u8 (ishr IntKind.u32 (cellI (gC enU g.1) (0
  + Int.toNat (↑s.1 : Int) * 1)) (16 : Int))), Value.int IntKind.u8 (IntKind.wrap IntKind.u8 (ishr IntKind.u32 (cellI (gC enU g.1) (0 + Int.toNat (↑s.1 : Int) * 1)) (24 :
  Int))), Value.int IntKind.u8 (1 : Int), Value.int IntKind.u8 (2 : Int), Value.int IntKind.u8 (3 : Int), Value.int IntKind.u8 (4 : Int)] 1)))) /\ ((Eq (α := Option Value)
  (some (Value.int IntKind.u8 (8 : Int))) (some (Value.int IntKind.u8 (cellI [Value.int IntKind.u8 (0 : Int), Value.int IntKind.u8 (0 : Int), Value.int IntKind.u8 (8 : Int),
  Value.int IntKind.u8 (6 : Int), Value.int IntKind.u8 (1 : Int), Value.int IntKind.u8 (0 : Int), Value.int IntKind.u8 (0 : Int), Value.int IntKind.u8 (0 : Int), Value.int
  IntKind.u8 (0 : Int), Value.int IntKind.u8 (IntKind.wrap IntKind.u8 (cellI (gC enU g.1) (0 + Int.toNat (↑s.1 : Int) * 1))), Value.int IntKind.u8 (IntKind.wrap IntKind.u8
  (ishr IntKind.u32 (cellI (gC enU g.1) (0 + Int.toNat (↑s.1 : Int) * 1)) (8 : Int))), Value.int IntKind.u8 (IntKind.wrap IntKind.u8 (ishr IntKind.u32 (cellI (gC enU g.1) (0
  + Int.toNat (↑s.1 : Int) * 1)) (16 : Int))), Value.int IntKind.u8 (IntKind.wrap IntKind.u8 (ishr IntKind.u32 (cellI (gC enU g.1) (0 + Int.toNat (↑s.1 : Int) * 1)) (24 :
  Int))), Value.int IntKind.u8 (1 : Int), Value.int IntKind.u8 (2 : Int), Value.int IntKind.u8 (3 : Int), Value.int IntKind.u8 (4 : Int)] 2)))) /\ ((Eq (α := Option Value)
  (some (Value.int IntKind.u8 (0 : Int))) (some (Value.int IntKind.u8 (cellI [Value.int IntKind.u8 (0 : Int), Value.int IntKind.u8 (0 : Int), Value.int IntKind.u8 (8 : Int),
  Value.int IntKind.u8 (6 : Int), Value.int IntKind.u8 (1 : Int), Value.int IntKind.u8 (0 : Int), Value.int IntKind.u8 (0 : Int), Value.int IntKind.u8 (0 : Int), Value.int
  IntKind.u8 (0 : Int), Value.int IntKind.u8 (IntKind.wrap IntKind.u8 (cellI (gC enU g.1) (0 + Int.toNat (↑s.1 : Int) * 1))), Value.int IntKind.u8 (IntKind.wrap IntKind.u8
  (ishr IntKind.u32 (cellI (gC enU g.1) (0 + Int.toNat (↑s.1 : Int) * 1)) (8 : Int))), Value.int IntKind.u8 (IntKind.wrap IntKind.u8 (ishr IntKind.u32 (cellI (gC enU g.1) (0
  + Int.toNat (↑s.1 : Int) * 1)) (16 : Int))), Value.int IntKind.u8 (IntKind.wrap IntKind.u8 (ishr IntKind.u32 (cellI (gC enU g.1) (0 + Int.toNat (↑s.1 : Int) * 1)) (24 :
  Int))), Value.int IntKind.u8 (1 : Int), Value.int IntKind.u8 (2 : Int), Value.int IntKind.u8 (3 : Int), Value.int IntKind.u8 (4 : Int)] 0)))) /\ ((Eq (α := Option Value)
  (some (Value.int IntKind.u8 (0 : Int))) (some (Value.int IntKind.u8 (cellI [Value.int IntKind.u8 (0 : Int), Value.int IntKind.u8 (0 : Int), Value.int IntKind.u8 (8 : Int),
  Value.int IntKind.u8 (6 : Int), Value.int IntKind.u8 (1 : Int), Value.int IntKind.u8 (0 : Int), Value.int IntKind.u8 (0 : Int), Value.int IntKind.u8 (0 : Int), Value.int
  IntKind.u8 (0 : Int), Value.int IntKind.u8 (IntKind.wrap IntKind.u8 (cellI (gC enU g.1) (0 + Int.toNat (↑s.1 : Int) * 1))), Value.int IntKind.u8 (IntKind.wrap IntKind.u8
  (ishr IntKind.u32 (cellI (gC enU g.1) (0 + Int.toNat (↑s.1 : Int) * 1)) (8 : Int))), Value.int IntKind.u8 (IntKind.wrap IntKind.u8 (ishr IntKind.u32 (cellI (gC enU g.1) (0
  + Int.toNat (↑s.1 : Int) * 1)) (16 : Int))), Value.int IntKind.u8 (IntKind.wrap IntKind.u8 (ishr IntKind.u32 (cellI (gC enU g.1) (0 + Int.toNat (↑s.1 : Int) * 1)) (24 :
  Int))), Value.int IntKind.u8 (1 : Int), Value.int IntKind.u8 (2 : Int), Value.int IntKind.u8 (3 : Int), Value.int IntKind.u8 (4 : Int)] 1)))) /\ ((Eq (α := Option Value)
  (some (Value.int IntKind.u8 (8 : Int))) (some (Value.int IntKind.u8 (cellI [Value.int IntKind.u8 (0 : Int), Value.int IntKind.u8 (0 : Int), Value.int IntKind.u8 (8 : Int),
  Value.int IntKind.u8 (6 : Int), Value.int IntKind.u8 (1 : Int), Value.int IntKind.u8 (0 : Int), Value.int IntKind.u8 (0 : Int), Value.int IntKind.u8 (0 : Int), Value.int
  IntKind.u8 (0 : Int), Value.int IntKind.u8 (IntKind.wrap IntKind.u8 (cellI (gC enU g.1) (0 + Int.toNat (↑s.1 : Int) * 1))), Value.int IntKind.u8 (IntKind.wrap IntKind.u8
  (ishr IntKind.u32 (cellI (gC enU g.1) (0 + Int.toNat (↑s.1 : Int) * 1)) (8 : Int))), Value.int IntKind.u8 (IntKind.wrap IntKind.u8 (ishr IntKind.u32 (cellI (gC enU g.1) (0
  + Int.toNat (↑s.1 : Int) * 1)) (16 : Int))), Value.int IntKind.u8 (IntKind.wrap IntKind.u8 (ishr IntKind.u32 (cellI (gC enU g.1) (0 + Int.toNat (↑s.1 : Int) * 1)) (24 :
  Int))), Value.int IntKind.u8 (1 : Int), Value.int IntKind.u8 (2 : Int), Value.int IntKind.u8 (3 : Int), Value.int IntKind.u8 (4 : Int)] 2)))) /\ ((Eq (α := Option Value)
  (some (Value.int IntKind.u8 (0 : Int))) (some (Value.int IntKind.u8 (cellI [Value.int IntKind.u8 (0 : Int), Value.int IntKind.u8 (0 : Int), Value.int IntKind.u8 (8 : Int),
  Value.int IntKind.u8 (6 : Int), Value.int IntKind.u8 (1 : Int), Value.int IntKind.u8 (0 : Int), Value.int IntKind.u8 (0 : Int), Value.int IntKind.u8 (0 : Int), Value.int
  IntKind.u8 (0 : Int), Value.int IntKind.u8 (IntKind.wrap IntKind.u8 (cellI (gC enU g.1) (0 + Int.toNat (↑s.1 : Int) * 1))), Value.int IntKind.u8 (IntKind.wrap IntKind.u8
  (ishr IntKind.u32 (cellI (gC enU g.1) (0 + Int.toNat (↑s.1 : Int) * 1)) (8 : Int))), Value.int IntKind.u8 (IntKind.wrap IntKind.u8 (ishr IntKind.u32 (cellI (gC enU g.1) (0
  + Int.toNat (↑s.1 : Int) * 1)) (16 : Int))), Value.int IntKind.u8 (IntKind.wrap IntKind.u8 (ishr IntKind.u32 (cellI (gC enU g.1) (0 + Int.toNat (↑s.1 : Int) * 1)) (24 :
  Int))), Value.int IntKind.u8 (1 : Int), Value.int IntKind.u8 (2 : Int), Value.int IntKind.u8 (3 : Int), Value.int IntKind.u8 (4 : Int)] 5)))) /\ ((Eq (α := Option Value)
  (some (Value.int IntKind.u8 (0 : Int))) (some (Value.int IntKind.u8 (cellI [Value.int IntKind.u8 (0 : Int), Value.int IntKind.u8 (0 : Int), Value.int IntKind.u8 (8 : Int),
  Value.int IntKind.u8 (6 : Int), Value.int IntKind.u8 (1 : Int), Value.int IntKind.u8 (0 : Int), Value.int IntKind.u8 (0 : Int), Value.int IntKind.u8 (0 : Int), Value.int
  IntKind.u8 (0 : Int), Value.int IntKind.u8 (IntKind.wrap IntKind.u8 (cellI (gC enU g.1) (0 + Int.toNat (↑s.1 : Int) * 1))), Value.int IntKind.u8 (IntKind.wrap IntKind.u8
  (ishr IntKind.u32 (cellI (gC enU g.1) (0 + Int.toNat (↑s.1 : Int) * 1)) (8 : Int))), Value.int IntKind.u8 (IntKind.wrap IntKind.u8 (ishr IntKind.u32 (cellI (gC enU g.1) (0
  + Int.toNat (↑s.1 : Int) * 1)) (16 : Int))), Value.int IntKind.u8 (IntKind.wrap IntKind.u8 (ishr IntKind.u32 (cellI (gC enU g.1) (0 + Int.toNat (↑s.1 : Int) * 1)) (24 :
  Int))), Value.int IntKind.u8 (1 : Int), Value.int IntKind.u8 (2 : Int), Value.int IntKind.u8 (3 : Int), Value.int IntKind.u8 (4 : Int)] 6)))) /\ ((Eq (α := Option Value)
  (some (Value.int IntKind.u8 (0 : Int))) (some (Value.int IntKind.u8 (cellI [Value.int IntKind.u8 (0 : Int), Value.int IntKind.u8 (0 : Int), Value.int IntKind.u8 (8 : Int),
  Value.int IntKind.u8 (6 : Int), Value.int IntKind.u8 (1 : Int), Value.int IntKind.u8 (0 : Int), Value.int IntKind.u8 (0 : Int), Value.int IntKind.u8 (0 : Int), Value.int
  IntKind.u8 (0 : Int), Value.int IntKind.u8 (IntKind.wrap IntKind.u8 (cellI (gC enU g.1) (0 + Int.toNat (↑s.1 : Int) * 1))), Value.int IntKind.u8 (IntKind.wrap IntKind.u8
  (ishr IntKind.u32 (cellI (gC enU g.1) (0 + Int.toNat (↑s.1 : Int) * 1)) (8 : Int))), Value.int IntKind.u8 (IntKind.wrap IntKind.u8 (ishr IntKind.u32 (cellI (gC enU g.1) (0
  + Int.toNat (↑s.1 : Int) * 1)) (16 : Int))), Value.int IntKind.u8 (IntKind.wrap IntKind.u8 (ishr IntKind.u32 (cellI (gC enU g.1) (0 + Int.toNat (↑s.1 : Int) * 1)) (24 :
  Int))), Value.int IntKind.u8 (1 : Int), Value.int IntKind.u8 (2 : Int), Value.int IntKind.u8 (3 : Int), Value.int IntKind.u8 (4 : Int)] 7)))) /\ ((Eq (α := Option Value)
  (some (Value.int IntKind.u8 (0 : Int))) (some (Value.int IntKind.u8 (cellI [Value.int IntKind.u8 (0 : Int), Value.int IntKind.u8 (0 : Int), Value.int IntKind.u8 (8 : Int),
  Value.int IntKind.u8 (6 : Int), Value.int IntKind.u8 (1 : Int), Value.int IntKind.u8 (0 : Int), Value.int IntKind.u8 (0 : Int), Value.int IntKind.u8 (0 : Int), Value.int
  IntKind.u8 (0 : Int), Value.int IntKind.u8 (IntKind.wrap IntKind.u8 (cellI (gC enU g.1) (0 + Int.toNat (↑s.1 : Int) * 1))), Value.int IntKind.u8 (IntKind.wrap IntKind.u8
  (ishr IntKind.u32 (cellI (gC enU g.1) (0 + Int.toNat (↑s.1 : Int) * 1)) (8 : Int))), Value.int IntKind.u8 (IntKind.wrap IntKind.u8 (ishr IntKind.u32 (cellI (gC enU g.1) (0
  + Int.toNat (↑s.1 : Int) * 1)) (16 : Int))), Value.int IntKind.u8 (IntKind.wrap IntKind.u8 (ishr IntKind.u32 (cellI (gC enU g.1) (0 + Int.toNat (↑s.1 : Int) * 1)) (24 :
  Int))), Value.int IntKind.u8 (1 : Int), Value.int IntKind.u8 (2 : Int), Value.int IntKind.u8 (3 : Int), Value.int IntKind.u8 (4 : Int)] 8)))) /\ ((Eq (α := Option Value)
  (some (Value.int IntKind.u8 (0 : Int))) (some (Value.int IntKind.u8 (cellI [Value.int IntKind.u8 (0 : Int), Value.int IntKind.u8 (0 : Int), Value.int IntKind.u8 (8 : Int),
  Value.int IntKind.u8 (6 : Int), Value.int IntKind.u8 (1 : Int), Value.int IntKind.u8 (0 : Int), Value.int IntKind.u8 (0 : Int), Value.int IntKind.u8 (0 : Int), Value.int
  IntKind.u8 (0 : Int), Value.int IntKind.u8 (IntKind.wrap IntKind.u8 (cellI (gC enU g.1) (0 + Int.toNat (↑s.1 : Int) * 1))), Value.int IntKind.u8 (IntKind.wrap IntKind.u8
  (ishr IntKind.u32 (cellI (gC enU g.1) (0 + Int.toNat (↑s.1 : Int) * 1)) (8 : Int))), Value.int IntKind.u8 (IntKind.wrap IntKind.u8 (ishr IntKind.u32 (cellI (gC enU g.1) (0
  + Int.toNat (↑s.1 : Int) * 1)) (16 : Int))), Value.int IntKind.u8 (IntKind.wrap IntKind.u8 (ishr IntKind.u32 (cellI (gC enU g.1) (0 + Int.toNat (↑s.1 : Int) * 1)) (24 :
  Int))), Value.int IntKind.u8 (1 : Int), Value.int IntKind.u8 (2 : Int), Value.int IntKind.u8 (3 : Int), Value.int IntKind.u8 (4 : Int)] 5)))) /\ ((Eq (α := Option Value)
  (some (Value.int IntKind.u8 (0 : Int))) (some (Value.int IntKind.u8 (cellI [Value.int IntKind.u8 (0 : Int), Value.int IntKind.u8 (0 : Int), Value.int IntKind.u8 (8 : Int),
  Value.int IntKind.u8 (6 : Int), Value.int IntKind.u8 (1 : Int), Value.int IntKind.u8 (0 : Int), Value.int IntKind.u8 (0 : Int), Value.int IntKind.u8 (0 : Int), Value.int
  IntKind.u8 (0 : Int), Value.int IntKind.u8 (IntKind.wrap IntKind.u8 (cellI (gC enU g.1) (0 + Int.toNat (↑s.1 : Int) * 1))), Value.int IntKind.u8 (IntKind.wrap IntKind.u8
  (ishr IntKind.u32 (cellI (gC enU g.1) (0 + Int.toNat (↑s.1 : Int) * 1)) (8 : Int))), Value.int IntKind.u8 (IntKind.wrap IntKind.u8 (ishr IntKind.u32 (cellI (gC enU g.1) (0
  + Int.toNat (↑s.1 : Int) * 1)) (16 : Int))), Value.int IntKind.u8 (IntKind.wrap IntKind.u8 (ishr IntKind.u32 (cellI (gC enU g.1) (0 + Int.toNat (↑s.1 : Int) * 1)) (24 :
  Int))), Value.int IntKind.u8 (1 : Int), Value.int IntKind.u8 (2 : Int), Value.int IntKind.u8 (3 : Int), Value.int IntKind.u8 (4 : Int)] 6)))) /\ ((Eq (α := Option Value)
  (some (Value.int IntKind.u8 (0 : Int))) (some (Value.int IntKind.u8 (cellI [Value.int IntKind.u8 (0 : Int), Value.int IntKind.u8 (0 : Int), Value.int IntKind.u8 (8 : Int),
  Value.int IntKind.u8 (6 : Int), Value.int IntKind.u8 (1 : Int), Value.int IntKind.u8 (0 : Int), Value.int IntKind.u8 (0 : Int), Value.int IntKind.u8 (0 : Int), Value.int
  IntKind.u8 (0 : Int), Value.int IntKind.u8 (IntKind.wrap IntKind.u8 (cellI (gC enU g.1) (0 + Int.toNat (↑s.1 : Int) * 1))), Value.int IntKind.u8 (IntKind.wrap IntKind.u8
  (ishr IntKind.u32 (cellI (gC enU g.1) (0 + Int.toNat (↑s.1 : Int) * 1)) (8 : Int))), Value.int IntKind.u8 (IntKind.wrap IntKind.u8 (ishr IntKind.u32 (cellI (gC enU g.1) (0
  + Int.toNat (↑s.1 : Int) * 1)) (16 : Int))), Value.int IntKind.u8 (IntKind.wrap IntKind.u8 (ishr IntKind.u32 (cellI (gC enU g.1) (0 + Int.toNat (↑s.1 : Int) * 1)) (24 :
  Int))), Value.int IntKind.u8 (1 : Int), Value.int IntKind.u8 (2 : Int), Value.int IntKind.u8 (3 : Int), Value.int IntKind.u8 (4 : Int)] 7)))) /\ ((Eq (α := Option Value)
  (some (Value.int IntKind.u8 (0 : Int))) (some (Value.int IntKind.u8 (cellI [Value.int IntKind.u8 (0 : Int), Value.int IntKind.u8 (0 : Int), Value.int IntKind.u8 (8 : Int),
  Value.int IntKind.u8 (6 : Int), Value.int IntKind.u8 (1 : Int), Value.int IntKind.u8 (0 : Int), Value.int IntKind.u8 (0 : Int), Value.int IntKind.u8 (0 : Int), Value.int
  IntKind.u8 (0 : Int), Value.int IntKind.u8 (IntKind.wrap IntKind.u8 (cellI (gC enU g.1) (0 + Int.toNat (↑s.1 : Int) * 1))), Value.int IntKind.u8 (IntKind.wrap IntKind.u8
  (ishr IntKind.u32 (cellI (gC enU g.1) (0 + Int.toNat (↑s.1 : Int) * 1)) (8 : Int))), Value.int IntKind.u8 (IntKind.wrap IntKind.u8 (ishr IntKind.u32 (cellI (gC enU g.1) (0
  + Int.toNat (↑s.1 : Int) * 1)) (16 : Int))), Value.int IntKind.u8 (IntKind.wrap IntKind.u8 (ishr IntKind.u32 (cellI (gC enU g.1) (0 + Int.toNat (↑s.1 : Int) * 1)) (24 :
  Int))), Value.int IntKind.u8 (1 : Int), Value.int IntKind.u8 (2 : Int), Value.int IntKind.u8 (3 : Int), Value.int IntKind.u8 (4 : Int)] 8)))) /\ ((Eq (α := Option Value)
  (some (Value.int IntKind.u8 (6 : Int))) (some (Value.int IntKind.u8 (cellI [Value.int IntKind.u8 (0 : Int), Value.int IntKind.u8 (0 : Int), Value.int IntKind.u8 (8 : Int),
  Value.int IntKind.u8 (6 : Int), Value.int IntKind.u8 (1 : Int), Value.int IntKind.u8 (0 : Int), Value.int IntKind.u8 (0 : Int), Value.int IntKind.u8 (0 : Int), Value.int
  IntKind.u8 (0 : Int), Value.int IntKind.u8 (IntKind.wrap IntKind.u8 (cellI (gC enU g.1) (0 + Int.toNat (↑s.1 : Int) * 1))), Value.int IntKind.u8 (IntKind.wrap IntKind.u8
  (ishr IntKind.u32 (cellI (gC enU g.1) (0 + Int.toNat (↑s.1 : Int) * 1)) (8 : Int))), Value.int IntKind.u8 (IntKind.wrap IntKind.u8 (ishr IntKind.u32 (cellI (gC enU g.1) (0
  + Int.toNat (↑s.1 : Int) * 1)) (16 : Int))), Value.int IntKind.u8 (IntKind.wrap IntKind.u8 (ishr IntKind.u32 (cellI (gC enU g.1) (0 + Int.toNat (↑s.1 : Int) * 1)) (24 :
  Int))), Value.int IntKind.u8 (1 : Int), Value.int IntKind.u8 (2 : Int), Value.int IntKind.u8 (3 : Int), Value.int IntKind.u8 (4 : Int)] 3)))) /\ ((Eq (α := Option Value)
  (some (Value.int IntKind.u8 (1 : Int))) (some (Value.int IntKind.u8 (cellI [Value.int IntKind.u8 (0 : Int), Value.int IntKind.u8 (0 : Int), Value.int IntKind.u8 (8 : Int),
  Value.int IntKind.u8 (6 : Int), Value.int IntKind.u8 (1 : Int), Value.int IntKind.u8 (0 : Int), Value.int IntKind.u8 (0 : Int), Value.int IntKind.u8 (0 : Int), Value.int
  IntKind.u8 (0 : Int), Value.int IntKind.u8 (IntKind.wrap IntKind.u8 (cellI (gC enU g.1) (0 + Int.toNat (↑s.1 : Int) * 1))), Value.int IntKind.u8 (IntKind.wrap IntKind.u8
  (ishr IntKind.u32 (cellI (gC enU g.1) (0 + Int.toNat (↑s.1 : Int) * 1)) (8 : Int))), Value.int IntKind.u8 (IntKind.wrap IntKind.u8 (ishr IntKind.u32 (cellI (gC enU g.1) (0
  + Int.toNat (↑s.1 : Int) * 1)) (16 : Int))), Value.int IntKind.u8 (IntKind.wrap IntKind.u8 (ishr IntKind.u32 (cellI (gC enU g.1) (0 + Int.toNat (↑s.1 : Int) * 1)) (24 :
  Int))), Value.int IntKind.u8 (1 : Int), Value.int IntKind.u8 (2 : Int), Value.int IntKind.u8 (3 : Int), Value.int IntKind.u8 (4 : Int)] 4)))) /\ ((Eq (α := Option Value)
  (some (Value.int IntKind.u8 (6 : Int))) (some (Value.int IntKind.u8 (cellI [Value.int IntKind.u8 (0 : Int), Value.int IntKind.u8 (0 : Int), Value.int IntKind.u8 (8 : Int),
  Value.int IntKind.u8 (6 : Int), Value.int IntKind.u8 (1 : Int), Value.int IntKind.u8 (0 : Int), Value.int IntKind.u8 (0 : Int), Value.int IntKind.u8 (0 : Int), Value.int
  IntKind.u8 (0 : Int), Value.int IntKind.u8 (IntKind.wrap IntKind.u8 (cellI (gC enU g.1) (0 + Int.toNat (↑s.1 : Int) * 1))), Value.int IntKind.u8 (IntKind.wrap IntKind.u8
  (ishr IntKind.u32 (cellI (gC enU g.1) (0 + Int.toNat (↑s.1 : Int) * 1)) (8 : Int))), Value.int IntKind.u8 (IntKind.wrap IntKind.u8 (ishr IntKind.u32 (cellI (gC enU g.1) (0
  + Int.toNat (↑s.1 : Int) * 1)) (16 : Int))), Value.int IntKind.u8 (IntKind.wrap IntKind.u8 (ishr IntKind.u32 (cellI (gC enU g.1) (0 + Int.toNat (↑s.1 : Int) * 1)) (24 :
  Int))), Value.int IntKind.u8 (1 : Int), Value.int IntKind.u8 (2 : Int), Value.int IntKind.u8 (3 : Int), Value.int IntKind.u8 (4 : Int)] 3)))) /\ ((Eq (α := Option Value)
  (some (Value.int IntKind.u8 (6 : Int))) (some (Value.int IntKind.u8 (cellI [Value.int IntKind.u8 (0 : Int), Value.int IntKind.u8 (0 : Int), Value.int IntKind.u8 (8 : Int),
  Value.int IntKind.u8 (6 : Int), Value.int IntKind.u8 (1 : Int), Value.int IntKind.u8 (0 : Int), Value.int IntKind.u8 (0 : Int), Value.int IntKind.u8 (0 : Int), Value.int
  IntKind.u8 (0 : Int), Value.int IntKind.u8 (IntKind.wrap IntKind.u8 (cellI (gC enU g.1) (0 + Int.toNat (↑s.1 : Int) * 1))), Value.int IntKind.u8 (IntKind.wrap IntKind.u8
  (ishr IntKind.u32 (cellI (gC enU g.1) (0 + Int.toNat (↑s.1 : Int) * 1)) (8 : Int))), Value.int IntKind.u8 (IntKind.wrap IntKind.u8 (ishr IntKind.u32 (cellI (gC enU g.1) (0
  + Int.toNat (↑s.1 : Int) * 1)) (16 : Int))), Value.int IntKind.u8 (IntKind.wrap IntKind.u8 (ishr IntKind.u32 (cellI (gC enU g.1) (0 + Int.toNat (↑s.1 : Int) * 1)) (24 :
  Int))), Value.int IntKind.u8 (1 : Int), Value.int IntKind.u8 (2 : Int), Value.int IntKind.u8 (3 : Int), Value.int IntKind.u8 (4 : Int)] 3)))) /\ ((Eq (α := Option Value)
  (some (Value.int IntKind.u8 (1 : Int))) (some (Value.int IntKind.u8 (cellI [Value.int IntKind.u8 (0 : Int), Value.int IntKind.u8 (0 : Int), Value.int IntKind.u8 (8 : Int),
  Value.int IntKind.u8 (6 : Int), Value.int IntKind.u8 (1 : Int), Value.int IntKind.u8 (0 : Int), Value.int IntKind.u8 (0 : Int), Value.int IntKind.u8 (0 : Int), Value.int
  IntKind.u8 (0 : Int), Value.int IntKind.u8 (IntKind.wrap IntKind.u8 (cellI (gC enU g.1) (0 + Int.toNat (↑s.1 : Int) * 1))), Value.int IntKind.u8 (IntKind.wrap IntKind.u8
  (ishr IntKind.u32 (cellI (gC enU g.1) (0 + Int.toNat (↑s.1 : Int) * 1)) (8 : Int))), Value.int IntKind.u8 (IntKind.wrap IntKind.u8 (ishr IntKind.u32 (cellI (gC enU g.1) (0
  + Int.toNat (↑s.1 : Int) * 1)) (16 : Int))), Value.int IntKind.u8 (IntKind.wrap IntKind.u8 (ishr IntKind.u32 (cellI (gC enU g.1) (0 + Int.toNat (↑s.1 : Int) * 1)) (24 :
  Int))), Value.int IntKind.u8 (1 : Int), Value.int IntKind.u8 (2 : Int), Value.int IntKind.u8 (3 : Int), Value.int IntKind.u8 (4 : Int)] 4)))) /\ ((Eq (α := Option Value)
  (some (Value.int IntKind.u8 (1 : Int))) (some (Value.int IntKind.u8 (cellI [Value.int IntKind.u8 (0 : Int), Value.int IntKind.u8 (0 : Int), Value.int IntKind.u8 (8 : Int),
  Value.int IntKind.u8 (6 : Int), Value.int IntKind.u8 (1 : Int), Value.int IntKind.u8 (0 : Int), Value.int IntKind.u8 (0 : Int), Value.int IntKind.u8 (0 : Int), Value.int
  IntKind.u8 (0 : Int), Value.int IntKind.u8 (IntKind.wrap IntKind.u8 (cellI (gC enU g.1) (0 + Int.toNat (↑s.1 : Int) * 1))), Value.int IntKind.u8 (IntKind.wrap IntKind.u8
  (ishr IntKind.u32 (cellI (gC enU g.1) (0 + Int.toNat (↑s.1 : Int) * 1)) (8 : Int))), Value.int IntKind.u8 (IntKind.wrap IntKind.u8 (ishr IntKind.u32 (cellI (gC enU g.1) (0
  + Int.toNat (↑s.1 : Int) * 1)) (16 : Int))), Value.int IntKind.u8 (IntKind.wrap IntKind.u8 (ishr IntKind.u32 (cellI (gC enU g.1) (0 + Int.toNat (↑s.1 : Int) * 1)) (24 :
  Int))), Value.int IntKind.u8 (1 : Int), Value.int IntKind.u8 (2 : Int), Value.int IntKind.u8 (3 : Int), Value.int IntKind.u8 (4 : Int)] 4)))) /\ (∃ j : PS, ((Inv j) /\ ((m
  j < m s) /\ ((0 = 0) /\ ((List.length g.1 = List.length g.1) /\ ((0 = 0) /\ ((List.length g.2 = List.length g.2) /\ ((0 = 0) /\ ((0 = 0) /\ ((List.length j.2 = List.length
  s.2) /\ (((↑j.1 : Int) = IntKind.wrap IntKind.i64 ((↑s.1 : Int) + (1 : Int))) /\ ((Eq (α := List Value) (gC enU g.1) (gC enU g.1)) /\ ((Plain (gC enU g.1)) /\ ((Eq (α :=
  List Value) (gC enB g.2) (gC enB g.2)) /\ ((Plain (gC enB g.2)) /\ ((true = true) /\ (((2 : Int) = (2 : Int)) /\ (((65535 : Int) = (65535 : Int)) /\ (((65536 : Int) =
  (65536 : Int)) /\ (((4096 : Int) = (4096 : Int)) /\ (((2147483647 : Int) = (2147483647 : Int)) /\ (((65535 : Int) = (65535 : Int)) /\ (((16384 : Int) = (16384 : Int)) /\
  (((2147483647 : Int) = (2147483647 : Int)) /\ ((j.4 = s.4) /\ ((List.length j.2 = List.length s.2) /\ ((0 = 0) /\ ((0 = 0) /\ ((0 = 0) /\ (((65535 : Int) = (65535 : Int))
  /\ (((65535 : Int) = (65535 : Int)) /\ (((0 : Int) = (0 : Int)) /\ (((1 : Int) = (1 : Int)) /\ ((true = true) /\ ((false = false) /\ ((false = false) /\ ((false = false)
  /\ ((false = false) /\ (((0 : Int) = (0 : Int)) /\ ((false = false) /\ ((Eq (α := List Value) (bCells j.3) (bCells s.3)) /\ ((Plain (bCells j.3)) /\ ((17 = 17) /\ ((0 = 0)
  /\ (((16384 : Int) = (16384 : Int)) /\ ((ByteArray.mk #[] = ByteArray.mk #[]) /\ (((0 : Int) = (0 : Int)) /\ (((0 : Int) = (0 : Int)) /\ (((0 : Int) = (0 : Int)) /\ ((Eq
  (α := List Value) ([Value.int IntKind.u8 (0 : Int), Value.int IntKind.u8 (0 : Int), Value.int IntKind.u8 (8 : Int), Value.int IntKind.u8 (6 : Int), Value.int IntKind.u8
  j.5, Value.int IntKind.u8 (0 : Int), Value.int IntKind.u8 (0 : Int), Value.int IntKind.u8 (0 : Int), Value.int IntKind.u8 (0 : Int), Value.int IntKind.u8 j.6, Value.int
  IntKind.u8 j.7, Value.int IntKind.u8 j.8, Value.int IntKind.u8 j.9, Value.int IntKind.u8 (1 : Int), Value.int IntKind.u8 (2 : Int), Value.int IntKind.u8 (3 : Int),
  Value.int IntKind.u8 (4 : Int)]) ([Value.int IntKind.u8 (0 : Int), Value.int IntKind.u8 (0 : Int), Value.int IntKind.u8 (8 : Int), Value.int IntKind.u8 (6 : Int),
  Value.int IntKind.u8 (1 : Int), Value.int IntKind.u8 (0 : Int), Value.int IntKind.u8 (0 : Int), Value.int IntKind.u8 (0 : Int), Value.int IntKind.u8 (0 : Int), Value.int
  IntKind.u8 (IntKind.wrap IntKind.u8 (cellI (gC enU g.1) (0 + Int.toNat (↑s.1 : Int) * 1))), Value.int IntKind.u8 (IntKind.wrap IntKind.u8 (ishr IntKind.u32 (cellI (gC enU
  g.1) (0 + Int.toNat (↑s.1 : Int) * 1)) (8 : Int))), Value.int IntKind.u8 (IntKind.wrap IntKind.u8 (ishr IntKind.u32 (cellI (gC enU g.1) (0 + Int.toNat (↑s.1 : Int) * 1))
  (16 : Int))), Value.int IntKind.u8 (IntKind.wrap IntKind.u8 (ishr IntKind.u32 (cellI (gC enU g.1) (0 + Int.toNat (↑s.1 : Int) * 1)) (24 : Int))), Value.int IntKind.u8 (1 :
  Int), Value.int IntKind.u8 (2 : Int), Value.int IntKind.u8 (3 : Int), Value.int IntKind.u8 (4 : Int)])) /\ ((Plain [Value.int IntKind.u8 (0 : Int), Value.int IntKind.u8 (0
  : Int), Value.int IntKind.u8 (8 : Int), Value.int IntKind.u8 (6 : Int), Value.int IntKind.u8 j.5, Value.int IntKind.u8 (0 : Int), Value.int IntKind.u8 (0 : Int), Value.int
  IntKind.u8 (0 : Int), Value.int IntKind.u8 (0 : Int), Value.int IntKind.u8 j.6, Value.int IntKind.u8 j.7, Value.int IntKind.u8 j.8, Value.int IntKind.u8 j.9, Value.int
  IntKind.u8 (1 : Int), Value.int IntKind.u8 (2 : Int), Value.int IntKind.u8 (3 : Int), Value.int IntKind.u8 (4 : Int)]) /\ ((Eq (α := List Value) (bCells j.2) (bCells s.2))
  /\ ((Plain (bCells j.2)) /\ ((0 = 0) /\ (((4096 : Int) = (4096 : Int)) /\ (((65536 : Int) = (65536 : Int)) /\ ((false = false) /\ ((0 = 0) /\ ((false = false) /\ (((0 :
  Int) = (0 : Int)) /\ (((0 : Int) = (0 : Int)) /\ (((4096 : Int) = (4096 : Int)) /\ (((0 : Int) = (0 : Int)) /\ (((4096 : Int) = (4096 : Int)) /\
  True)))))))))))))))))))))))))))))))))))))))))))))))))))))))))))))))))))))))))))))))))))) (br (decide (0 + List.length s.2 * 1 <= List.length (bCells s.2))) (br (allOne
  (List.take (List.length s.2 * 1) (List.drop 0 (bCells s.2)))) (br (decide (0 + List.length s.2 <= 16777216)) (br (decide (0 + List.length s.2 + 9 <= 16777216)) (br (decide
  (0 + (0 + List.length s.2) * 1 <= List.length ([] ++ List.take (List.length s.2 * 1) (List.drop 0 (bCells s.2))))) (br (decide (0 + List.length s.2 + 9 + 8 <= 16777216))
  (br (decide (0 + (0 + List.length s.2 + 9) * 1 <= List.length (List.take ((0 + List.length s.2) * 1) (List.drop 0 ([] ++ List.take (List.length s.2 * 1) (List.drop 0
  (bCells s.2)))) ++ [Value.int IntKind.u8 (0 : Int), Value.int IntKind.u8 (0 : Int), Value.int IntKind.u8 (8 : Int), Value.int IntKind.u8 (6 : Int), Value.int IntKind.u8 (1
  : Int), Value.int IntKind.u8 (0 : Int), Value.int IntKind.u8 (0 : Int), Value.int IntKind.u8 (0 : Int), Value.int IntKind.u8 (0 : Int)]))) ((Eq (α := Option Value) (some
  (Value.int IntKind.u8 (0 : Int))) (some (Value.int IntKind.u8 (cellI [Value.int IntKind.u8 (0 : Int), Value.int IntKind.u8 (0 : Int), Value.int IntKind.u8 (8 : Int),
  Value.int IntKind.u8 (6 : Int), Value.int IntKind.u8 (0 : Int), Value.int IntKind.u8 (0 : Int), Value.int IntKind.u8 (0 : Int), Value.int IntKind.u8 (0 : Int), Value.int
  IntKind.u8 (0 : Int), Value.int IntKind.u8 (IntKind.wrap IntKind.u8 (cellI (gC enU g.1) (0 + Int.toNat (↑s.1 : Int) * 1))), Value.int IntKind.u8 (IntKind.wrap IntKind.u8
  (ishr IntKind.u32 (cellI (gC enU g.1) (0 + Int.toNat (↑s.1 : Int) * 1)) (8 : Int))), Value.int IntKind.u8 (IntKind.wrap IntKind.u8 (ishr IntKind.u32 (cellI (gC enU g.1) (0
  + Int.toNat (↑s.1 : Int) * 1)) (16 : Int))), Value.int IntKind.u8 (IntKind.wrap IntKind.u8 (ishr IntKind.u32 (cellI (gC enU g.1) (0 + Int.toNat (↑s.1 : Int) * 1)) (24 :
  Int))), Value.int IntKind.u8 (1 : Int), Value.int IntKind.u8 (2 : Int), Value.int IntKind.u8 (3 : Int), Value.int IntKind.u8 (4 : Int)] 0)))) /\ ((Eq (α := Option Value)
  (some (Value.int IntKind.u8 (0 : Int))) (some (Value.int IntKind.u8 (cellI [Value.int IntKind.u8 (0 : Int), Value.int IntKind.u8 (0 : Int), Value.int IntKind.u8 (8 : Int),
  Value.int IntKind.u8 (6 : Int), Value.int IntKind.u8 (0 : Int), Value.int IntKind.u8 (0 : Int), Value.int IntKind.u8 (0 : Int), Value.int IntKind.u8 (0 : Int), Value.int
  IntKind.u8 (0 : Int), Value.int IntKind.u8 (IntKind.wrap IntKind.u8 (cellI (gC enU g.1) (0 + Int.toNat (↑s.1 : Int) * 1))), Value.int IntKind.u8 (IntKind.wrap IntKind.u8
  (ishr IntKind.u32 (cellI (gC enU g.1) (0 + Int.toNat (↑s.1 : Int) * 1)) (8 : Int))), Value.int IntKind.u8 (IntKind.wrap IntKind.u8 (ishr IntKind.u32 (cellI (gC enU g.1) (0
  + Int.toNat (↑s.1 : Int) * 1)) (16 : Int))), Value.int IntKind.u8 (IntKind.wrap IntKind.u8 (ishr IntKind.u32 (cellI (gC enU g.1) (0 + Int.toNat (↑s.1 : Int) * 1)) (24 :
  Int))), Value.int IntKind.u8 (1 : Int), Value.int IntKind.u8 (2 : Int), Value.int IntKind.u8 (3 : Int), Value.int IntKind.u8 (4 : Int)] 1)))) /\ ((Eq (α := Option Value)
  (some (Value.int IntKind.u8 (8 : Int))) (some (Value.int IntKind.u8 (cellI [Value.int IntKind.u8 (0 : Int), Value.int IntKind.u8 (0 : Int), Value.int IntKind.u8 (8 : Int),
  Value.int IntKind.u8 (6 : Int), Value.int IntKind.u8 (0 : Int), Value.int IntKind.u8 (0 : Int), Value.int IntKind.u8 (0 : Int), Value.int IntKind.u8 (0 : Int), Value.int
  IntKind.u8 (0 : Int), Value.int IntKind.u8 (IntKind.wrap IntKind.u8 (cellI (gC enU g.1) (0 + Int.toNat (↑s.1 : Int) * 1))), Value.int IntKind.u8 (IntKind.wrap IntKind.u8
  (ishr IntKind.u32 (cellI (gC enU g.1) (0 + Int.toNat (↑s.1 : Int) * 1)) (8 : Int))), Value.int IntKind.u8 (IntKind.wrap IntKind.u8 (ishr IntKind.u32 (cellI (gC enU g.1) (0
  + Int.toNat (↑s.1 : Int) * 1)) (16 : Int))), Value.int IntKind.u8 (IntKind.wrap IntKind.u8 (ishr IntKind.u32 (cellI (gC enU g.1) (0 + Int.toNat (↑s.1 : Int) * 1)) (24 :
  Int))), Value.int IntKind.u8 (1 : Int), Value.int IntKind.u8 (2 : Int), Value.int IntKind.u8 (3 : Int), Value.int IntKind.u8 (4 : Int)] 2)))) /\ ((Eq (α := Option Value)
  (some (Value.int IntKind.u8 (0 : Int))) (some (Value.int IntKind.u8 (cellI [Value.int IntKind.u8 (0 : Int), Value.int IntKind.u8 (0 : Int), Value.int IntKind.u8 (8 : Int),
  Value.int IntKind.u8 (6 : Int), Value.int IntKind.u8 (0 : Int), Value.int IntKind.u8 (0 : Int), Value.int IntKind.u8 (0 : Int), Value.int IntKind.u8 (0 : Int), Value.int
  IntKind.u8 (0 : Int), Value.int IntKind.u8 (IntKind.wrap IntKind.u8 (cellI (gC enU g.1) (0 + Int.toNat (↑s.1 : Int) * 1))), Value.int IntKind.u8 (IntKind.wrap IntKind.u8
  (ishr IntKind.u32 (cellI (gC enU g.1) (0 + Int.toNat (↑s.1 : Int) * 1)) (8 : Int))), Value.int IntKind.u8 (IntKind.wrap IntKind.u8 (ishr IntKind.u32 (cellI (gC enU g.1) (0
  + Int.toNat (↑s.1 : Int) * 1)) (16 : Int))), Value.int IntKind.u8 (IntKind.wrap IntKind.u8 (ishr IntKind.u32 (cellI (gC enU g.1) (0 + Int.toNat (↑s.1 : Int) * 1)) (24 :
  Int))), Value.int IntKind.u8 (1 : Int), Value.int IntKind.u8 (2 : Int), Value.int IntKind.u8 (3 : Int), Value.int IntKind.u8 (4 : Int)] 0)))) /\ ((Eq (α := Option Value)
  (some (Value.int IntKind.u8 (0 : Int))) (some (Value.int IntKind.u8 (cellI [Value.int IntKind.u8 (0 : Int), Value.int IntKind.u8 (0 : Int), Value.int IntKind.u8 (8 : Int),
  Value.int IntKind.u8 (6 : Int), Value.int IntKind.u8 (0 : Int), Value.int IntKind.u8 (0 : Int), Value.int IntKind.u8 (0 : Int), Value.int IntKind.u8 (0 : Int), Value.int
  IntKind.u8 (0 : Int), Value.int IntKind.u8 (IntKind.wrap IntKind.u8 (cellI (gC enU g.1) (0 + Int.toNat (↑s.1 : Int) * 1))), Value.int IntKind.u8 (IntKind.wrap IntKind.u8
  (ishr IntKind.u32 (cellI (gC enU g.1) (0 + Int.toNat (↑s.1 : Int) * 1)) (8 : Int))), Value.int IntKind.u8 (IntKind.wrap IntKind.u8 (ishr IntKind.u32 (cellI (gC enU g.1) (0
  + Int.toNat (↑s.1 : Int) * 1)) (16 : Int))), Value.int IntKind.u8 (IntKind.wrap IntKind.u8 (ishr IntKind.u32 (cellI (gC enU g.1) (0 + Int.toNat (↑s.1 : Int) * 1)) (24 :
  Int))), Value.int IntKind.u8 (1 : Int), Value.int IntKind.u8 (2 : Int), Value.int IntKind.u8 (3 : Int), Value.int IntKind.u8 (4 : Int)] 1)))) /\ ((Eq (α := Option Value)
  (some (Value.int IntKind.u8 (8 : Int))) (some (Value.int IntKind.u8 (cellI [Value.int IntKind.u8 (0 : Int), Value.int IntKind.u8 (0 : Int), Value.int IntKind.u8 (8 : Int),
  Value.int IntKind.u8 (6 : Int), Value.int IntKind.u8 (0 : Int), Value.int IntKind.u8 (0 : Int), Value.int IntKind.u8 (0 : Int), Value.int IntKind.u8 (0 : Int), Value.int
  IntKind.u8 (0 : Int), Value.int IntKind.u8 (IntKind.wrap IntKind.u8 (cellI (gC enU g.1) (0 + Int.toNat (↑s.1 : Int) * 1))), Value.int IntKind.u8 (IntKind.wrap IntKind.u8
  (ishr IntKind.u32 (cellI (gC enU g.1) (0 + Int.toNat (↑s.1 : Int) * 1)) (8 : Int))), Value.int IntKind.u8 (IntKind.wrap IntKind.u8 (ishr IntKind.u32 (cellI (gC enU g.1) (0
  + Int.toNat (↑s.1 : Int) * 1)) (16 : Int))), Value.int IntKind.u8 (IntKind.wrap IntKind.u8 (ishr IntKind.u32 (cellI (gC enU g.1) (0 + Int.toNat (↑s.1 : Int) * 1)) (24 :
  Int))), Value.int IntKind.u8 (1 : Int), Value.int IntKind.u8 (2 : Int), Value.int IntKind.u8 (3 : Int), Value.int IntKind.u8 (4 : Int)] 2)))) /\ ((Eq (α := Option Value)
  (some (Value.int IntKind.u8 (0 : Int))) (some (Value.int IntKind.u8 (cellI [Value.int IntKind.u8 (0 : Int), Value.int IntKind.u8 (0 : Int), Value.int IntKind.u8 (8 : Int),
  Value.int IntKind.u8 (6 : Int), Value.int IntKind.u8 (0 : Int), Value.int IntKind.u8 (0 : Int), Value.int IntKind.u8 (0 : Int), Value.int IntKind.u8 (0 : Int), Value.int
  IntKind.u8 (0 : Int), Value.int IntKind.u8 (IntKind.wrap IntKind.u8 (cellI (gC enU g.1) (0 + Int.toNat (↑s.1 : Int) * 1))), Value.int IntKind.u8 (IntKind.wrap IntKind.u8
  (ishr IntKind.u32 (cellI (gC enU g.1) (0 + Int.toNat (↑s.1 : Int) * 1)) (8 : Int))), Value.int IntKind.u8 (IntKind.wrap IntKind.u8 (ishr IntKind.u32 (cellI (gC enU g.1) (0
  + Int.toNat (↑s.1 : Int) * 1)) (16 : Int))), Value.int IntKind.u8 (IntKind.wrap IntKind.u8 (ishr IntKind.u32 (cellI (gC enU g.1) (0 + Int.toNat (↑s.1 : Int) * 1)) (24 :
  Int))), Value.int IntKind.u8 (1 : Int), Value.int IntKind.u8 (2 : Int), Value.int IntKind.u8 (3 : Int), Value.int IntKind.u8 (4 : Int)] 5)))) /\ ((Eq (α := Option Value)
  (some (Value.int IntKind.u8 (0 : Int))) (some (Value.int IntKind.u8 (cellI [Value.int IntKind.u8 (0 : Int), Value.int IntKind.u8 (0 : Int), Value.int IntKind.u8 (8 : Int),
  Value.int IntKind.u8 (6 : Int), Value.int IntKind.u8 (0 : Int), Value.int IntKind.u8 (0 : Int), Value.int IntKind.u8 (0 : Int), Value.int IntKind.u8 (0 : Int), Value.int
  IntKind.u8 (0 : Int), Value.int IntKind.u8 (IntKind.wrap IntKind.u8 (cellI (gC enU g.1) (0 + Int.toNat (↑s.1 : Int) * 1))), Value.int IntKind.u8 (IntKind.wrap IntKind.u8
  (ishr IntKind.u32 (cellI (gC enU g.1) (0 + Int.toNat (↑s.1 : Int) * 1)) (8 : Int))), Value.int IntKind.u8 (IntKind.wrap IntKind.u8 (ishr IntKind.u32 (cellI (gC enU g.1) (0
  + Int.toNat (↑s.1 : Int) * 1)) (16 : Int))), Value.int IntKind.u8 (IntKind.wrap IntKind.u8 (ishr IntKind.u32 (cellI (gC enU g.1) (0 + Int.toNat (↑s.1 : Int) * 1)) (24 :
  Int))), Value.int IntKind.u8 (1 : Int), Value.int IntKind.u8 (2 : Int), Value.int IntKind.u8 (3 : Int), Value.int IntKind.u8 (4 : Int)] 6)))) /\ ((Eq (α := Option Value)
  (some (Value.int IntKind.u8 (0 : Int))) (some (Value.int IntKind.u8 (cellI [Value.int IntKind.u8 (0 : Int), Value.int IntKind.u8 (0 : Int), Value.int IntKind.u8 (8 : Int),
  Value.int IntKind.u8 (6 : Int), Value.int IntKind.u8 (0 : Int), Value.int IntKind.u8 (0 : Int), Value.int IntKind.u8 (0 : Int), Value.int IntKind.u8 (0 : Int), Value.int
  IntKind.u8 (0 : Int), Value.int IntKind.u8 (IntKind.wrap IntKind.u8 (cellI (gC enU g.1) (0 + Int.toNat (↑s.1 : Int) * 1))), Value.int IntKind.u8 (IntKind.wrap IntKind.u8
  (ishr IntKind.u32 (cellI (gC enU g.1) (0 + Int.toNat (↑s.1 : Int) * 1)) (8 : Int))), Value.int IntKind.u8 (IntKind.wrap IntKind.u8 (ishr IntKind.u32 (cellI (gC enU g.1) (0
  + Int.toNat (↑s.1 : Int) * 1)) (16 : Int))), Value.int IntKind.u8 (IntKind.wrap IntKind.u8 (ishr IntKind.u32 (cellI (gC enU g.1) (0 + Int.toNat (↑s.1 : Int) * 1)) (24 :
  Int))), Value.int IntKind.u8 (1 : Int), Value.int IntKind.u8 (2 : Int), Value.int IntKind.u8 (3 : Int), Value.int IntKind.u8 (4 : Int)] 7)))) /\ ((Eq (α := Option Value)
  (some (Value.int IntKind.u8 (0 : Int))) (some (Value.int IntKind.u8 (cellI [Value.int IntKind.u8 (0 : Int), Value.int IntKind.u8 (0 : Int), Value.int IntKind.u8 (8 : Int),
  Value.int IntKind.u8 (6 : Int), Value.int IntKind.u8 (0 : Int), Value.int IntKind.u8 (0 : Int), Value.int IntKind.u8 (0 : Int), Value.int IntKind.u8 (0 : Int), Value.int
  IntKind.u8 (0 : Int), Value.int IntKind.u8 (IntKind.wrap IntKind.u8 (cellI (gC enU g.1) (0 + Int.toNat (↑s.1 : Int) * 1))), Value.int IntKind.u8 (IntKind.wrap IntKind.u8
  (ishr IntKind.u32 (cellI (gC enU g.1) (0 + Int.toNat (↑s.1 : Int) * 1)) (8 : Int))), Value.int IntKind.u8 (IntKind.wrap IntKind.u8 (ishr IntKind.u32 (cellI (gC enU g.1) (0
  + Int.toNat (↑s.1 : Int) * 1)) (16 : Int))), Value.int IntKind.u8 (IntKind.wrap IntKind.u8 (ishr IntKind.u32 (cellI (gC enU g.1) (0 + Int.toNat (↑s.1 : Int) * 1)) (24 :
  Int))), Value.int IntKind.u8 (1 : Int), Value.int IntKind.u8 (2 : Int), Value.int IntKind.u8 (3 : Int), Value.int IntKind.u8 (4 : Int)] 8)))) /\ ((Eq (α := Option Value)
  (some (Value.int IntKind.u8 (0 : Int))) (some (Value.int IntKind.u8 (cellI [Value.int IntKind.u8 (0 : Int), Value.int IntKind.u8 (0 : Int), Value.int IntKind.u8 (8 : Int),
  Value.int IntKind.u8 (6 : Int), Value.int IntKind.u8 (0 : Int), Value.int IntKind.u8 (0 : Int), Value.int IntKind.u8 (0 : Int), Value.int IntKind.u8 (0 : Int), Value.int
  IntKind.u8 (0 : Int), Value.int IntKind.u8 (IntKind.wrap IntKind.u8 (cellI (gC enU g.1) (0 + Int.toNat (↑s.1 : Int) * 1))), Value.int IntKind.u8 (IntKind.wrap IntKind.u8
  (ishr IntKind.u32 (cellI (gC enU g.1) (0 + Int.toNat (↑s.1 : Int) * 1)) (8 : Int))), Value.int IntKind.u8 (IntKind.wrap IntKind.u8 (ishr IntKind.u32 (cellI (gC enU g.1) (0
  + Int.toNat (↑s.1 : Int) * 1)) (16 : Int))), Value.int IntKind.u8 (IntKind.wrap IntKind.u8 (ishr IntKind.u32 (cellI (gC enU g.1) (0 + Int.toNat (↑s.1 : Int) * 1)) (24 :
  Int))), Value.int IntKind.u8 (1 : Int), Value.int IntKind.u8 (2 : Int), Value.int IntKind.u8 (3 : Int), Value.int IntKind.u8 (4 : Int)] 5)))) /\ ((Eq (α := Option Value)
  (some (Value.int IntKind.u8 (0 : Int))) (some (Value.int IntKind.u8 (cellI [Value.int IntKind.u8 (0 : Int), Value.int IntKind.u8 (0 : Int), Value.int IntKind.u8 (8 : Int),
  Value.int IntKind.u8 (6 : Int), Value.int IntKind.u8 (0 : Int), Value.int IntKind.u8 (0 : Int), Value.int IntKind.u8 (0 : Int), Value.int IntKind.u8 (0 : Int), Value.int
  IntKind.u8 (0 : Int), Value.int IntKind.u8 (IntKind.wrap IntKind.u8 (cellI (gC enU g.1) (0 + Int.toNat (↑s.1 : Int) * 1))), Value.int IntKind.u8 (IntKind.wrap IntKind.u8
  (ishr IntKind.u32 (cellI (gC enU g.1) (0 + Int.toNat (↑s.1 : Int) * 1)) (8 : Int))), Value.int IntKind.u8 (IntKind.wrap IntKind.u8 (ishr IntKind.u32 (cellI (gC enU g.1) (0
  + Int.toNat (↑s.1 : Int) * 1)) (16 : Int))), Value.int IntKind.u8 (IntKind.wrap IntKind.u8 (ishr IntKind.u32 (cellI (gC enU g.1) (0 + Int.toNat (↑s.1 : Int) * 1)) (24 :
  Int))), Value.int IntKind.u8 (1 : Int), Value.int IntKind.u8 (2 : Int), Value.int IntKind.u8 (3 : Int), Value.int IntKind.u8 (4 : Int)] 6)))) /\ ((Eq (α := Option Value)
  (some (Value.int IntKind.u8 (0 : Int))) (some (Value.int IntKind.u8 (cellI [Value.int IntKind.u8 (0 : Int), Value.int IntKind.u8 (0 : Int), Value.int IntKind.u8 (8 : Int),
  Value.int IntKind.u8 (6 : Int), Value.int IntKind.u8 (0 : Int), Value.int IntKind.u8 (0 : Int), Value.int IntKind.u8 (0 : Int), Value.int IntKind.u8 (0 : Int), Value.int
  IntKind.u8 (0 : Int), Value.int IntKind.u8 (IntKind.wrap IntKind.u8 (cellI (gC enU g.1) (0 + Int.toNat (↑s.1 : Int) * 1))), Value.int IntKind.u8 (IntKind.wrap IntKind.u8
  (ishr IntKind.u32 (cellI (gC enU g.1) (0 + Int.toNat (↑s.1 : Int) * 1)) (8 : Int))), Value.int IntKind.u8 (IntKind.wrap IntKind.u8 (ishr IntKind.u32 (cellI (gC enU g.1) (0
  + Int.toNat (↑s.1 : Int) * 1)) (16 : Int))), Value.int IntKind.u8 (IntKind.wrap IntKind.u8 (ishr IntKind.u32 (cellI (gC enU g.1) (0 + Int.toNat (↑s.1 : Int) * 1)) (24 :
  Int))), Value.int IntKind.u8 (1 : Int), Value.int IntKind.u8 (2 : Int), Value.int IntKind.u8 (3 : Int), Value.int IntKind.u8 (4 : Int)] 7)))) /\ ((Eq (α := Option Value)
  (some (Value.int IntKind.u8 (0 : Int))) (some (Value.int IntKind.u8 (cellI [Value.int IntKind.u8 (0 : Int), Value.int IntKind.u8 (0 : Int), Value.int IntKind.u8 (8 : Int),
  Value.int IntKind.u8 (6 : Int), Value.int IntKind.u8 (0 : Int), Value.int IntKind.u8 (0 : Int), Value.int IntKind.u8 (0 : Int), Value.int IntKind.u8 (0 : Int), Value.int
  IntKind.u8 (0 : Int), Value.int IntKind.u8 (IntKind.wrap IntKind.u8 (cellI (gC enU g.1) (0 + Int.toNat (↑s.1 : Int) * 1))), Value.int IntKind.u8 (IntKind.wrap IntKind.u8
  (ishr IntKind.u32 (cellI (gC enU g.1) (0 + Int.toNat (↑s.1 : Int) * 1)) (8 : Int))), Value.int IntKind.u8 (IntKind.wrap IntKind.u8 (ishr IntKind.u32 (cellI (gC enU g.1) (0
  + Int.toNat (↑s.1 : Int) * 1)) (16 : Int))), Value.int IntKind.u8 (IntKind.wrap IntKind.u8 (ishr IntKind.u32 (cellI (gC enU g.1) (0 + Int.toNat (↑s.1 : Int) * 1)) (24 :
  Int))), Value.int IntKind.u8 (1 : Int), Value.int IntKind.u8 (2 : Int), Value.int IntKind.u8 (3 : Int), Value.int IntKind.u8 (4 : Int)] 8)))) /\ ((Eq (α := Option Value)
  (some (Value.int IntKind.u8 (6 : Int))) (some (Value.int IntKind.u8 (cellI [Value.int IntKind.u8 (0 : Int), Value.int IntKind.u8 (0 : Int), Value.int IntKind.u8 (8 : Int),
  Value.int IntKind.u8 (6 : Int), Value.int IntKind.u8 (0 : Int), Value.int IntKind.u8 (0 : Int), Value.int IntKind.u8 (0 : Int), Value.int IntKind.u8 (0 : Int), Value.int
  IntKind.u8 (0 : Int), Value.int IntKind.u8 (IntKind.wrap IntKind.u8 (cellI (gC enU g.1) (0 + Int.toNat (↑s.1 : Int) * 1))), Value.int IntKind.u8 (IntKind.wrap IntKind.u8
  (ishr IntKind.u32 (cellI (gC enU g.1) (0 + Int.toNat (↑s.1 : Int) * 1)) (8 : Int))), Value.int IntKind.u8 (IntKind.wrap IntKind.u8 (ishr IntKind.u32 (cellI (gC enU g.1) (0
  + Int.toNat (↑s.1 : Int) * 1)) (16 : Int))), Value.int IntKind.u8 (IntKind.wrap IntKind.u8 (ishr IntKind.u32 (cellI (gC enU g.1) (0 + Int.toNat (↑s.1 : Int) * 1)) (24 :
  Int))), Value.int IntKind.u8 (1 : Int), Value.int IntKind.u8 (2 : Int), Value.int IntKind.u8 (3 : Int), Value.int IntKind.u8 (4 : Int)] 3)))) /\ ((Eq (α := Option Value)
  (some (Value.int IntKind.u8 (0 : Int))) (some (Value.int IntKind.u8 (cellI [Value.int IntKind.u8 (0 : Int), Value.int IntKind.u8 (0 : Int), Value.int IntKind.u8 (8 : Int),
  Value.int IntKind.u8 (6 : Int), Value.int IntKind.u8 (0 : Int), Value.int IntKind.u8 (0 : Int), Value.int IntKind.u8 (0 : Int), Value.int IntKind.u8 (0 : Int), Value.int
  IntKind.u8 (0 : Int), Value.int IntKind.u8 (IntKind.wrap IntKind.u8 (cellI (gC enU g.1) (0 + Int.toNat (↑s.1 : Int) * 1))), Value.int IntKind.u8 (IntKind.wrap IntKind.u8
  (ishr IntKind.u32 (cellI (gC enU g.1) (0 + Int.toNat (↑s.1 : Int) * 1)) (8 : Int))), Value.int IntKind.u8 (IntKind.wrap IntKind.u8 (ishr IntKind.u32 (cellI (gC enU g.1) (0
  + Int.toNat (↑s.1 : Int) * 1)) (16 : Int))), Value.int IntKind.u8 (IntKind.wrap IntKind.u8 (ishr IntKind.u32 (cellI (gC enU g.1) (0 + Int.toNat (↑s.1 : Int) * 1)) (24 :
  Int))), Value.int IntKind.u8 (1 : Int), Value.int IntKind.u8 (2 : Int), Value.int IntKind.u8 (3 : Int), Value.int IntKind.u8 (4 : Int)] 4)))) /\ ((Eq (α := Option Value)
  (some (Value.int IntKind.u8 (6 : Int))) (some (Value.int IntKind.u8 (cellI [Value.int IntKind.u8 (0 : Int), Value.int IntKind.u8 (0 : Int), Value.int IntKind.u8 (8 : Int),
  Value.int IntKind.u8 (6 : Int), Value.int IntKind.u8 (0 : Int), Value.int IntKind.u8 (0 : Int), Value.int IntKind.u8 (0 : Int), Value.int IntKind.u8 (0 : Int), Value.int
  IntKind.u8 (0 : Int), Value.int IntKind.u8 (IntKind.wrap IntKind.u8 (cellI (gC enU g.1) (0 + Int.toNat (↑s.1 : Int) * 1))), Value.int IntKind.u8 (IntKind.wrap IntKind.u8
  (ishr IntKind.u32 (cellI (gC enU g.1) (0 + Int.toNat (↑s.1 : Int) * 1)) (8 : Int))), Value.int IntKind.u8 (IntKind.wrap IntKind.u8 (ishr IntKind.u32 (cellI (gC enU g.1) (0
  + Int.toNat (↑s.1 : Int) * 1)) (16 : Int))), Value.int IntKind.u8 (IntKind.wrap IntKind.u8 (ishr IntKind.u32 (cellI (gC enU g.1) (0 + Int.toNat (↑s.1 : Int) * 1)) (24 :
  Int))), Value.int IntKind.u8 (1 : Int), Value.int IntKind.u8 (2 : Int), Value.int IntKind.u8 (3 : Int), Value.int IntKind.u8 (4 : Int)] 3)))) /\ ((Eq (α := Option Value)
  (some (Value.int IntKind.u8 (6 : Int))) (some (Value.int IntKind.u8 (cellI [Value.int IntKind.u8 (0 : Int), Value.int IntKind.u8 (0 : Int), Value.int IntKind.u8 (8 : Int),
  Value.int IntKind.u8 (6 : Int), Value.int IntKind.u8 (0 : Int), Value.int IntKind.u8 (0 : Int), Value.int IntKind.u8 (0 : Int), Value.int IntKind.u8 (0 : Int), Value.int
  IntKind.u8 (0 : Int), Value.int IntKind.u8 (IntKind.wrap IntKind.u8 (cellI (gC enU g.1) (0 + Int.toNat (↑s.1 : Int) * 1))), Value.int IntKind.u8 (IntKind.wrap IntKind.u8
  (ishr IntKind.u32 (cellI (gC enU g.1) (0 + Int.toNat (↑s.1 : Int) * 1)) (8 : Int))), Value.int IntKind.u8 (IntKind.wrap IntKind.u8 (ishr IntKind.u32 (cellI (gC enU g.1) (0
  + Int.toNat (↑s.1 : Int) * 1)) (16 : Int))), Value.int IntKind.u8 (IntKind.wrap IntKind.u8 (ishr IntKind.u32 (cellI (gC enU g.1) (0 + Int.toNat (↑s.1 : Int) * 1)) (24 :
  Int))), Value.int IntKind.u8 (1 : Int), Value.int IntKind.u8 (2 : Int), Value.int IntKind.u8 (3 : Int), Value.int IntKind.u8 (4 : Int)] 3)))) /\ ((Eq (α := Option Value)
  (some (Value.int IntKind.u8 (0 : Int))) (some (Value.int IntKind.u8 (cellI [Value.int IntKind.u8 (0 : Int), Value.int IntKind.u8 (0 : Int), Value.int IntKind.u8 (8 : Int),
  Value.int IntKind.u8 (6 : Int), Value.int IntKind.u8 (0 : Int), Value.int IntKind.u8 (0 : Int), Value.int IntKind.u8 (0 : Int), Value.int IntKind.u8 (0 : Int), Value.int
  IntKind.u8 (0 : Int), Value.int IntKind.u8 (IntKind.wrap IntKind.u8 (cellI (gC enU g.1) (0 + Int.toNat (↑s.1 : Int) * 1))), Value.int IntKind.u8 (IntKind.wrap IntKind.u8
  (ishr IntKind.u32 (cellI (gC enU g.1) (0 + Int.toNat (↑s.1 : Int) * 1)) (8 : Int))), Value.int IntKind.u8 (IntKind.wrap IntKind.u8 (ishr IntKind.u32 (cellI (gC enU g.1) (0
  + Int.toNat (↑s.1 : Int) * 1)) (16 : Int))), Value.int IntKind.u8 (IntKind.wrap IntKind.u8 (ishr IntKind.u32 (cellI (gC enU g.1) (0 + Int.toNat (↑s.1 : Int) * 1)) (24 :
  Int))), Value.int IntKind.u8 (1 : Int), Value.int IntKind.u8 (2 : Int), Value.int IntKind.u8 (3 : Int), Value.int IntKind.u8 (4 : Int)] 4)))) /\ ((Eq (α := Option Value)
  (some (Value.int IntKind.u8 (0 : Int))) (some (Value.int IntKind.u8 (cellI [Value.int IntKind.u8 (0 : Int), Value.int IntKind.u8 (0 : Int), Value.int IntKind.u8 (8 : Int),
  Value.int IntKind.u8 (6 : Int), Value.int IntKind.u8 (0 : Int), Value.int IntKind.u8 (0 : Int), Value.int IntKind.u8 (0 : Int), Value.int IntKind.u8 (0 : Int), Value.int
  IntKind.u8 (0 : Int), Value.int IntKind.u8 (IntKind.wrap IntKind.u8 (cellI (gC enU g.1) (0 + Int.toNat (↑s.1 : Int) * 1))), Value.int IntKind.u8 (IntKind.wrap IntKind.u8
  (ishr IntKind.u32 (cellI (gC enU g.1) (0 + Int.toNat (↑s.1 : Int) * 1)) (8 : Int))), Value.int IntKind.u8 (IntKind.wrap IntKind.u8 (ishr IntKind.u32 (cellI (gC enU g.1) (0
  + Int.toNat (↑s.1 : Int) * 1)) (16 : Int))), Value.int IntKind.u8 (IntKind.wrap IntKind.u8 (ishr IntKind.u32 (cellI (gC enU g.1) (0 + Int.toNat (↑s.1 : Int) * 1)) (24 :
  Int))), Value.int IntKind.u8 (1 : Int), Value.int IntKind.u8 (2 : Int), Value.int IntKind.u8 (3 : Int), Value.int IntKind.u8 (4 : Int)] 4)))) /\ (br (decide (IntKind.wrap
  IntKind.i64 (Int.ofNat (List.length s.2) + Int.ofNat 17) > (262144 : Int))) (br (decide (List.length s.2 + 17 <= 16777216)) (br (decide (s.4 + List.length s.2 * 1 <=
  List.length (bCells s.3))) (br (veq 20 (Value.slice (some (Addr.mk 3 s.4 none)) (List.length s.2) 1) (Value.slice (some (Addr.mk 3 s.4 none)) (List.length s.2) 1)) (br
  (veq 20 (Value.slice (some (Addr.mk 3 s.4 none)) (List.length s.2) 1) (Value.slice (some (Addr.mk 3 s.4 none)) (List.length s.2) 1)) False False) False) False) False) (br
  (decide (List.length s.2 + 17 <= 16777216)) (br (decide (s.4 + List.length s.2 * 1 <= List.length (bCells s.3))) (∃ j : PS, ((Inv j) /\ ((m j < m s) /\ ((0 = 0) /\
  ((List.length g.1 = List.length g.1) /\ ((0 = 0) /\ ((List.length g.2 = List.length g.2) /\ ((0 = 0) /\ ((0 = 0) /\ ((List.length j.2 = 0 + List.length s.2 + 9 + 8) /\
  (((↑j.1 : Int) = IntKind.wrap IntKind.i64 ((↑s.1 : Int) + (1 : Int))) /\ ((Eq (α := List Value) (gC enU g.1) (gC enU g.1)) /\ ((Plain (gC enU g.1)) /\ ((Eq (α := List
  Value) (gC enB g.2) (gC enB g.2)) /\ ((Plain (gC enB g.2)) /\ ((true = true) /\ (((2 : Int) = (2 : Int)) /\ (((65535 : Int) = (65535 : Int)) /\ (((65536 : Int) = (65536 :
  Int)) /\ (((4096 : Int) = (4096 : Int)) /\ (((2147483647 : Int) = (2147483647 : Int)) /\ (((65535 : Int) = (65535 : Int)) /\ (((16384 : Int) = (16384 : Int)) /\
  (((2147483647 : Int) = (2147483647 : Int)) /\ ((j.4 = 0) /\ ((List.length j.2 = List.length s.2 + 17) /\ ((0 = 0) /\ ((0 = 0) /\ ((0 = 0) /\ (((65535 : Int) = (65535 :
  Int)) /\ (((65535 : Int) = (65535 : Int)) /\ (((0 : Int) = (0 : Int)) /\ (((1 : Int) = (1 : Int)) /\ ((true = true) /\ ((false = false) /\ ((false = false) /\ ((false =
  false) /\ ((false = false) /\ (((0 : Int) = (0 : Int)) /\ ((false = false) /\ ((Eq (α := List Value) (bCells j.3) (List.take (List.length s.2 * 1) (List.drop s.4 (bCells
  s.3)) ++ [Value.int IntKind.u8 (IntKind.wrap IntKind.u8 (ishr IntKind.i64 (Int.ofNat 8) (16 : Int))), Value.int IntKind.u8 (IntKind.wrap IntKind.u8 (ishr IntKind.i64
  (Int.ofNat 8) (8 : Int))), Value.int IntKind.u8 (IntKind.wrap IntKind.u8 (Int.ofNat 8)), Value.int IntKind.u8 (6 : Int), Value.int IntKind.u8 (1 : Int), Value.int
  IntKind.u8 (0 : Int), Value.int IntKind.u8 (0 : Int), Value.int IntKind.u8 (0 : Int), Value.int IntKind.u8 (0 : Int), Value.int IntKind.u8 (IntKind.wrap IntKind.u8 (cellI
  (gC enU g.1) (0 + Int.toNat (↑s.1 : Int) * 1))), Value.int IntKind.u8 (IntKind.wrap IntKind.u8 (ishr IntKind.u32 (cellI (gC enU g.1) (0 + Int.toNat (↑s.1 : Int) * 1)) (8 :
  Int))), Value.int IntKind.u8 (IntKind.wrap IntKind.u8 (ishr IntKind.u32 (cellI (gC enU g.1) (0 + Int.toNat (↑s.1 : Int) * 1)) (16 : Int))), Value.int IntKind.u8
  (IntKind.wrap IntKind.u8 (ishr IntKind.u32 (cellI (gC enU g.1) (0 + Int.toNat (↑s.1 : Int) * 1)) (24 : Int))), Value.int IntKind.u8 (1 : Int), Value.int IntKind.u8 (2 :
  Int), Value.int IntKind.u8 (3 : Int), Value.int IntKind.u8 (4 : Int)])) /\ ((Plain (bCells j.3)) /\ ((17 = 17) /\ ((0 = 0) /\ (((16384 : Int) = (16384 : Int)) /\
  ((ByteArray.mk #[] = ByteArray.mk #[]) /\ (((0 : Int) = (0 : Int)) /\ (((0 : Int) = (0 : Int)) /\ (((0 : Int) = (0 : Int)) /\ ((Eq (α := List Value) ([Value.int IntKind.u8
  (0 : Int), Value.int IntKind.u8 (0 : Int), Value.int IntKind.u8 (8 : Int), Value.int IntKind.u8 (6 : Int), Value.int IntKind.u8 j.5, Value.int IntKind.u8 (0 : Int),
  Value.int IntKind.u8 (0 : Int), Value.int IntKind.u8 (0 : Int), Value.int IntKind.u8 (0 : Int), Value.int IntKind.u8 j.6, Value.int IntKind.u8 j.7, Value.int IntKind.u8
  j.8, Value.int IntKind.u8 j.9, Value.int IntKind.u8 (1 : Int), Value.int IntKind.u8 (2 : Int), Value.int IntKind.u8 (3 : Int), Value.int IntKind.u8 (4 : Int)]) ([Value.int
  IntKind.u8 (0 : Int), Value.int IntKind.u8 (0 : Int), Value.int IntKind.u8 (8 : Int), Value.int IntKind.u8 (6 : Int), Value.int IntKind.u8 (0 : Int), Value.int IntKind.u8
  (0 : Int), Value.int IntKind.u8 (0 : Int), Value.int IntKind.u8 (0 : Int), Value.int IntKind.u8 (0 : Int), Value.int IntKind.u8 (IntKind.wrap IntKind.u8 (cellI (gC enU
  g.1) (0 + Int.toNat (↑s.1 : Int) * 1))), Value.int IntKind.u8 (IntKind.wrap IntKind.u8 (ishr IntKind.u32 (cellI (gC enU g.1) (0 + Int.toNat (↑s.1 : Int) * 1)) (8 : Int))),
  Value.int IntKind.u8 (IntKind.wrap IntKind.u8 (ishr IntKind.u32 (cellI (gC enU g.1) (0 + Int.toNat (↑s.1 : Int) * 1)) (16 : Int))), Value.int IntKind.u8 (IntKind.wrap
  IntKind.u8 (ishr IntKind.u32 (cellI (gC enU g.1) (0 + Int.toNat (↑s.1 : Int) * 1)) (24 : Int))), Value.int IntKind.u8 (1 : Int), Value.int IntKind.u8 (2 : Int), Value.int
  IntKind.u8 (3 : Int), Value.int IntKind.u8 (4 : Int)])) /\ ((Plain [Value.int IntKind.u8 (0 : Int), Value.int IntKind.u8 (0 : Int), Value.int IntKind.u8 (8 : Int),
  Value.int IntKind.u8 (6 : Int), Value.int IntKind.u8 j.5, Value.int IntKind.u8 (0 : Int), Value.int IntKind.u8 (0 : Int), Value.int IntKind.u8 (0 : Int), Value.int
  IntKind.u8 (0 : Int), Value.int IntKind.u8 j.6, Value.int IntKind.u8 j.7, Value.int IntKind.u8 j.8, Value.int IntKind.u8 j.9, Value.int IntKind.u8 (1 : Int), Value.int
  IntKind.u8 (2 : Int), Value.int IntKind.u8 (3 : Int), Value.int IntKind.u8 (4 : Int)]) /\ ((Eq (α := List Value) (bCells j.2) (List.take ((0 + List.length s.2 + 9) * 1)
  (List.drop 0 (List.take ((0 + List.length s.2) * 1) (List.drop 0 ([] ++ List.take (List.length s.2 * 1) (List.drop 0 (bCells s.2)))) ++ [Value.int IntKind.u8 (0 : Int),
  Value.int IntKind.u8 (0 : Int), Value.int IntKind.u8 (8 : Int), Value.int IntKind.u8 (6 : Int), Value.int IntKind.u8 (1 : Int), Value.int IntKind.u8 (0 : Int), Value.int
  IntKind.u8 (0 : Int), Value.int IntKind.u8 (0 : Int), Value.int IntKind.u8 (0 : Int)])) ++ [Value.int IntKind.u8 (IntKind.wrap IntKind.u8 (cellI (gC enU g.1) (0 +
  Int.toNat (↑s.1 : Int) * 1))), Value.int IntKind.u8 (IntKind.wrap IntKind.u8 (ishr IntKind.u32 (cellI (gC enU g.1) (0 + Int.toNat (↑s.1 : Int) * 1)) (8 : Int))), Value.int
  IntKind.u8 (IntKind.wrap IntKind.u8 (ishr IntKind.u32 (cellI (gC enU g.1) (0 + Int.toNat (↑s.1 : Int) * 1)) (16 : Int))), Value.int IntKind.u8 (IntKind.wrap IntKind.u8
  (ishr IntKind.u32 (cellI (gC enU g.1) (0 + Int.toNat (↑s.1 : Int) * 1)) (24 : Int))), Value.int IntKind.u8 (1 : Int), Value.int IntKind.u8 (2 : Int), Value.int IntKind.u8
  (3 : Int), Value.int IntKind.u8 (4 : Int)])) /\ ((Plain (bCells j.2)) /\ ((0 = 0) /\ (((4096 : Int) = (4096 : Int)) /\ (((65536 : Int) = (65536 : Int)) /\ ((false = false)
  /\ ((0 = 0) /\ ((false = false) /\ (((0 : Int) = (0 : Int)) /\ (((0 : Int) = (0 : Int)) /\ (((4096 : Int) = (4096 : Int)) /\ (((0 : Int) = (0 : Int)) /\ (((4096 : Int) =
  (4096 : Int)) /\ True)))))))))))))))))))))))))))))))))))))))))))))))))))))))))))))))) False) False)))))))))))))))))))))) False) False) False) False) False) False) False)))
  False) (br (decide (0 + List.length s.2 * 1 <= List.length (bCells s.2))) (br (allOne (List.take (List.length s.2 * 1) (List.drop 0 (bCells s.2)))) (br (decide (0 +
  List.length s.2 <= 16777216)) (br (decide (0 + List.length s.2 + 9 <= 16777216)) (br (decide (0 + (0 + List.length s.2) * 1 <= List.length ([] ++ List.take (List.length
  s.2 * 1) (List.drop 0 (bCells s.2))))) (br (decide (0 + List.length s.2 + 9 + 8 <= 16777216)) (br (decide (0 + (0 + List.length s.2 + 9) * 1 <= List.length (List.take ((0
  + List.length s.2) * 1) (List.drop 0 ([] ++ List.take (List.length s.2 * 1) (List.drop 0 (bCells s.2)))) ++ [Value.int IntKind.u8 (0 : Int), Value.int IntKind.u8 (0 :
  Int), Value.int IntKind.u8 (8 : Int), Value.int IntKind.u8 (6 : Int), Value.int IntKind.u8 (1 : Int), Value.int IntKind.u8 (0 : Int), Value.int IntKind.u8 (0 : Int),
  Value.int IntKind.u8 (0 : Int), Value.int IntKind.u8 (0 : Int)]))) ((Eq (α := Option Value) (some (Value.int IntKind.u8 (0 : Int))) (some (Value.int IntKind.u8 (cellI
  [Value.int IntKind.u8 (0 : Int), Value.int IntKind.u8 (0 : Int), Value.int IntKind.u8 (8 : Int), Value.int IntKind.u8 (6 : Int), Value.int IntKind.u8 (0 : Int), Value.int
  IntKind.u8 (0 : Int), Value.int IntKind.u8 (0 : Int), Value.int IntKind.u8 (0 : Int), Value.int IntKind.u8 (0 : Int), Value.int IntKind.u8 (IntKind.wrap IntKind.u8 (cellI
  (gC enU g.1) (0 + Int.toNat (↑s.1 : Int) * 1))), Value.int IntKind.u8 (IntKind.wrap IntKind.u8 (ishr IntKind.u32 (cellI (gC enU g.1) (0 + Int.toNat (↑s.1 : Int) * 1)) (8 :
  Int))), Value.int IntKind.u8 (IntKind.wrap IntKind.u8 (ishr IntKind.u32 (cellI (gC enU g.1) (0 + Int.toNat (↑s.1 : Int) * 1)) (16 : Int))), Value.int IntKind.u8
  (IntKind.wrap IntKind.u8 (ishr IntKind.u32 (cellI (gC enU g.1) (0 + Int.toNat (↑s.1 : Int) * 1)) (24 : Int))), Value.int IntKind.u8 (1 : Int), Value.int IntKind.u8 (2 :
  Int), Value.int IntKind.u8 (3 : Int), Value.int IntKind.u8 (4 : Int)] 0)))) /\ ((Eq (α := Option Value) (some (Value.int IntKind.u8 (0 : Int))) (some (Value.int IntKind.u8
  (cellI [Value.int IntKind.u8 (0 : Int), Value.int IntKind.u8 (0 : Int), Value.int IntKind.u8 (8 : Int), Value.int IntKind.u8 (6 : Int), Value.int IntKind.u8 (0 : Int),
  Value.int IntKind.u8 (0 : Int), Value.int IntKind.u8 (0 : Int), Value.int IntKind.u8 (0 : Int), Value.int IntKind.u8 (0 : Int), Value.int IntKind.u8 (IntKind.wrap
  IntKind.u8 (cellI (gC enU g.1) (0 + Int.toNat (↑s.1 : Int) * 1))), Value.int IntKind.u8 (IntKind.wrap IntKind.u8 (ishr IntKind.u32 (cellI (gC enU g.1) (0 + Int.toNat (↑s.1
  : Int) * 1)) (8 : Int))), Value.int IntKind.u8 (IntKind.wrap IntKind.u8 (ishr IntKind.u32 (cellI (gC enU g.1) (0 + Int.toNat (↑s.1 : Int) * 1)) (16 : Int))), Value.int
  IntKind.u8 (IntKind.wrap IntKind.u8 (ishr IntKind.u32 (cellI (gC enU g.1) (0 + Int.toNat (↑s.1 : Int) * 1)) (24 : Int))), Value.int IntKind.u8 (1 : Int), Value.int
  IntKind.u8 (2 : Int), Value.int IntKind.u8 (3 : Int), Value.int IntKind.u8 (4 : Int)] 1)))) /\ ((Eq (α := Option Value) (some (Value.int IntKind.u8 (8 : Int))) (some
  (Value.int IntKind.u8 (cellI [Value.int IntKind.u8 (0 : Int), Value.int IntKind.u8 (0 : Int), Value.int IntKind.u8 (8 : Int), Value.int IntKind.u8 (6 : Int), Value.int
  IntKind.u8 (0 : Int), Value.int IntKind.u8 (0 : Int), Value.int IntKind.u8 (0 : Int), Value.int IntKind.u8 (0 : Int), Value.int IntKind.u8 (0 : Int), Value.int IntKind.u8
  (IntKind.wrap IntKind.u8 (cellI (gC enU g.1) (0 + Int.toNat (↑s.1 : Int) * 1))), Value.int IntKind.u8 (IntKind.wrap IntKind.u8 (ishr IntKind.u32 (cellI (gC enU g.1) (0 +
  Int.toNat (↑s.1 : Int) * 1)) (8 : Int))), Value.int IntKind.u8 (IntKind.wrap IntKind.u8 (ishr IntKind.u32 (cellI (gC enU g.1) (0 + Int.toNat (↑s.1 : Int) * 1)) (16 :
  Int))), Value.int IntKind.u8 (IntKind.wrap IntKind.u8 (ishr IntKind.u32 (cellI (gC enU g.1) (0 + Int.toNat (↑s.1 : Int) * 1)) (24 : Int))), Value.int IntKind.u8 (1 : Int),
  Value.int IntKind.u8 (2 : Int), Value.int IntKind.u8 (3 : Int), Value.int IntKind.u8 (4 : Int)] 2)))) /\ ((Eq (α := Option Value) (some (Value.int IntKind.u8 (0 : Int)))
  (some (Value.int IntKind.u8 (cellI [Value.int IntKind.u8 (0 : Int), Value.int IntKind.u8 (0 : Int), Value.int IntKind.u8 (8 : Int), Value.int IntKind.u8 (6 : Int),
  Value.int IntKind.u8 (0 : Int), Value.int IntKind.u8 (0 : Int), Value.int IntKind.u8 (0 : Int), Value.int IntKind.u8 (0 : Int), Value.int IntKind.u8 (0 : Int), Value.int
  IntKind.u8 (IntKind.wrap IntKind.u8 (cellI (gC enU g.1) (0 + Int.toNat (↑s.1 : Int) * 1))), Value.int IntKind.u8 (IntKind.wrap IntKind.u8 (ishr IntKind.u32 (cellI (gC enU
  g.1) (0 + Int.toNat (↑s.1 : Int) * 1)) (8 : Int))), Value.int IntKind.u8 (IntKind.wrap IntKind.u8 (ishr IntKind.u32 (cellI (gC enU g.1) (0 + Int.toNat (↑s.1 : Int) * 1))
  (16 : Int))), Value.int IntKind.u8 (IntKind.wrap IntKind.u8 (ishr IntKind.u32 (cellI (gC enU g.1) (0 + Int.toNat (↑s.1 : Int) * 1)) (24 : Int))), Value.int IntKind.u8 (1 :
  Int), Value.int IntKind.u8 (2 : Int), Value.int IntKind.u8 (3 : Int), Value.int IntKind.u8 (4 : Int)] 0)))) /\ ((Eq (α := Option Value) (some (Value.int IntKind.u8 (0 :
  Int))) (some (Value.int IntKind.u8 (cellI [Value.int IntKind.u8 (0 : Int), Value.int IntKind.u8 (0 : Int), Value.int IntKind.u8 (8 : Int), Value.int IntKind.u8 (6 : Int),
  Value.int IntKind.u8 (0 : Int), Value.int IntKind.u8 (0 : Int), Value.int IntKind.u8 (0 : Int), Value.int IntKind.u8 (0 : Int), Value.int IntKind.u8 (0 : Int), Value.int
  IntKind.u8 (IntKind.wrap IntKind.u8 (cellI (gC enU g.1) (0 + Int.toNat (↑s.1 : Int) * 1))), Value.int IntKind.u8 (IntKind.wrap IntKind.u8 (ishr IntKind.u32 (cellI (gC enU
  g.1) (0 + Int.toNat (↑s.1 : Int) * 1)) (8 : Int))), Value.int IntKind.u8 (IntKind.wrap IntKind.u8 (ishr IntKind.u32 (cellI (gC enU g.1) (0 + Int.toNat (↑s.1 : Int) * 1))
  (16 : Int))), Value.int IntKind.u8 (IntKind.wrap IntKind.u8 (ishr IntKind.u32 (cellI (gC enU g.1) (0 + Int.toNat (↑s.1 : Int) * 1)) (24 : Int))), Value.int IntKind.u8 (1 :
  Int), Value.int IntKind.u8 (2 : Int), Value.int IntKind.u8 (3 : Int), Value.int IntKind.u8 (4 : Int)] 1)))) /\ ((Eq (α := Option Value) (some (Value.int IntKind.u8 (8 :
  Int))) (some (Value.int IntKind.u8 (cellI [Value.int IntKind.u8 (0 : Int), Value.int IntKind.u8 (0 : Int), Value.int IntKind.u8 (8 : Int), Value.int IntKind.u8 (6 : Int),
  Value.int IntKind.u8 (0 : Int), Value.int IntKind.u8 (0 : Int), Value.int IntKind.u8 (0 : Int), Value.int IntKind.u8 (0 : Int), Value.int IntKind.u8 (0 : Int), Value.int
  IntKind.u8 (IntKind.wrap IntKind.u8 (cellI (gC enU g.1) (0 + Int.toNat (↑s.1 : Int) * 1))), Value.int IntKind.u8 (IntKind.wrap IntKind.u8 (ishr IntKind.u32 (cellI (gC enU
  g.1) (0 + Int.toNat (↑s.1 : Int) * 1)) (8 : Int))), Value.int IntKind.u8 (IntKind.wrap IntKind.u8 (ishr IntKind.u32 (cellI (gC enU g.1) (0 + Int.toNat (↑s.1 : Int) * 1))
  (16 : Int))), Value.int IntKind.u8 (IntKind.wrap IntKind.u8 (ishr IntKind.u32 (cellI (gC enU g.1) (0 + Int.toNat (↑s.1 : Int) * 1)) (24 : Int))), Value.int IntKind.u8 (1 :
  Int), Value.int IntKind.u8 (2 : Int), Value.int IntKind.u8 (3 : Int), Value.int IntKind.u8 (4 : Int)] 2)))) /\ ((Eq (α := Option Value) (some (Value.int IntKind.u8 (0 :
  Int))) (some (Value.int IntKind.u8 (cellI [Value.int IntKind.u8 (0 : Int), Value.int IntKind.u8 (0 : Int), Value.int IntKind.u8 (8 : Int), Value.int IntKind.u8 (6 : Int),
  Value.int IntKind.u8 (0 : Int), Value.int IntKind.u8 (0 : Int), Value.int IntKind.u8 (0 : Int), Value.int IntKind.u8 (0 : Int), Value.int IntKind.u8 (0 : Int), Value.int
  IntKind.u8 (IntKind.wrap IntKind.u8 (cellI (gC enU g.1) (0 + Int.toNat (↑s.1 : Int) * 1))), Value.int IntKind.u8 (IntKind.wrap IntKind.u8 (ishr IntKind.u32 (cellI (gC enU
  g.1) (0 + Int.toNat (↑s.1 : Int) * 1)) (8 : Int))), Value.int IntKind.u8 (IntKind.wrap IntKind.u8 (ishr IntKind.u32 (cellI (gC enU g.1) (0 + Int.toNat (↑s.1 : Int) * 1))
  (16 : Int))), Value.int IntKind.u8 (IntKind.wrap IntKind.u8 (ishr IntKind.u32 (cellI (gC enU g.1) (0 + Int.toNat (↑s.1 : Int) * 1)) (24 : Int))), Value.int IntKind.u8 (1 :
  Int), Value.int IntKind.u8 (2 : Int), Value.int IntKind.u8 (3 : Int), Value.int IntKind.u8 (4 : Int)] 5)))) /\ ((Eq (α := Option Value) (some (Value.int IntKind.u8 (0 :
  Int))) (some (Value.int IntKind.u8 (cellI [Value.int IntKind.u8 (0 : Int), Value.int IntKind.u8 (0 : Int), Value.int IntKind.u8 (8 : Int), Value.int IntKind.u8 (6 : Int),
  Value.int IntKind.u8 (0 : Int), Value.int IntKind.u8 (0 : Int), Value.int IntKind.u8 (0 : Int), Value.int IntKind.u8 (0 : Int), Value.int IntKind.u8 (0 : Int), Value.int
  IntKind.u8 (IntKind.wrap IntKind.u8 (cellI (gC enU g.1) (0 + Int.toNat (↑s.1 : Int) * 1))), Value.int IntKind.u8 (IntKind.wrap IntKind.u8 (ishr IntKind.u32 (cellI (gC enU
  g.1) (0 + Int.toNat (↑s.1 : Int) * 1)) (8 : Int))), Value.int IntKind.u8 (IntKind.wrap IntKind.u8 (ishr IntKind.u32 (cellI (gC enU g.1) (0 + Int.toNat (↑s.1 : Int) * 1))
  (16 : Int))), Value.int IntKind.u8 (IntKind.wrap IntKind.u8 (ishr IntKind.u32 (cellI (gC enU g.1) (0 + Int.toNat (↑s.1 : Int) * 1)) (24 : Int))), Value.int IntKind.u8 (1 :
  Int), Value.int IntKind.u8 (2 : Int), Value.int IntKind.u8 (3 : Int), Value.int IntKind.u8 (4 : Int)] 6)))) /\ ((Eq (α := Option Value) (some (Value.int IntKind.u8 (0 :
  Int))) (some (Value.int IntKind.u8 (cellI [Value.int IntKind.u8 (0 : Int), Value.int IntKind.u8 (0 : Int), Value.int IntKind.u8 (8 : Int), Value.int IntKind.u8 (6 : Int),
  Value.int IntKind.u8 (0 : Int), Value.int IntKind.u8 (0 : Int), Value.int IntKind.u8 (0 : Int), Value.int IntKind.u8 (0 : Int), Value.int IntKind.u8 (0 : Int), Value.int
  IntKind.u8 (IntKind.wrap IntKind.u8 (cellI (gC enU g.1) (0 + Int.toNat (↑s.1 : Int) * 1))), Value.int IntKind.u8 (IntKind.wrap IntKind.u8 (ishr IntKind.u32 (cellI (gC enU
  g.1) (0 + Int.toNat (↑s.1 : Int) * 1)) (8 : Int))), Value.int IntKind.u8 (IntKind.wrap IntKind.u8 (ishr IntKind.u32 (cellI (gC enU g.1) (0 + Int.toNat (↑s.1 : Int) * 1))
  (16 : Int))), Value.int IntKind.u8 (IntKind.wrap IntKind.u8 (ishr IntKind.u32 (cellI (gC enU g.1) (0 + Int.toNat (↑s.1 : Int) * 1)) (24 : Int))), Value.int IntKind.u8 (1 :
  Int), Value.int IntKind.u8 (2 : Int), Value.int IntKind.u8 (3 : Int), Value.int IntKind.u8 (4 : Int)] 7)))) /\ ((Eq (α := Option Value) (some (Value.int IntKind.u8 (0 :
  Int))) (some (Value.int IntKind.u8 (cellI [Value.int IntKind.u8 (0 : Int), Value.int IntKind.u8 (0 : Int), Value.int IntKind.u8 (8 : Int), Value.int IntKind.u8 (6 : Int),
  Value.int IntKind.u8 (0 : Int), Value.int IntKind.u8 (0 : Int), Value.int IntKind.u8 (0 : Int), Value.int IntKind.u8 (0 : Int), Value.int IntKind.u8 (0 : Int), Value.int
  IntKind.u8 (IntKind.wrap IntKind.u8 (cellI (gC enU g.1) (0 + Int.toNat (↑s.1 : Int) * 1))), Value.int IntKind.u8 (IntKind.wrap IntKind.u8 (ishr IntKind.u32 (cellI (gC enU
  g.1) (0 + Int.toNat (↑s.1 : Int) * 1)) (8 : Int))), Value.int IntKind.u8 (IntKind.wrap IntKind.u8 (ishr IntKind.u32 (cellI (gC enU g.1) (0 + Int.toNat (↑s.1 : Int) * 1))
  (16 : Int))), Value.int IntKind.u8 (IntKind.wrap IntKind.u8 (ishr IntKind.u32 (cellI (gC enU g.1) (0 + Int.toNat (↑s.1 : Int) * 1)) (24 : Int))), Value.int IntKind.u8 (1 :
  Int), Value.int IntKind.u8 (2 : Int), Value.int IntKind.u8 (3 : Int), Value.int IntKind.u8 (4 : Int)] 8)))) /\ ((Eq (α := Option Value) (some (Value.int IntKind.u8 (0 :
  Int))) (some (Value.int IntKind.u8 (cellI [Value.int IntKind.u8 (0 : Int), Value.int IntKind.u8 (0 : Int), Value.int IntKind.u8 (8 : Int), Value.int IntKind.u8 (6 : Int),
  Value.int IntKind.u8 (0 : Int), Value.int IntKind.u8 (0 : Int), Value.int IntKind.u8 (0 : Int), Value.int IntKind.u8 (0 : Int), Value.int IntKind.u8 (0 : Int), Value.int
  IntKind.u8 (IntKind.wrap IntKind.u8 (cellI (gC enU g.1) (0 + Int.toNat (↑s.1 : Int) * 1))), Value.int IntKind.u8 (IntKind.wrap IntKind.u8 (ishr IntKind.u32 (cellI (gC enU
  g.1) (0 + Int.toNat (↑s.1 : Int) * 1)) (8 : Int))), Value.int IntKind.u8 (IntKind.wrap IntKind.u8 (ishr IntKind.u32 (cellI (gC enU g.1) (0 + Int.toNat (↑s.1 : Int) * 1))
  (16 : Int))), Value.int IntKind.u8 (IntKind.wrap IntKind.u8 (ishr IntKind.u32 (cellI (gC enU g.1) (0 + Int.toNat (↑s.1 : Int) * 1)) (24 : Int))), Value.int IntKind.u8 (1 :
  Int), Value.int IntKind.u8 (2 : Int), Value.int IntKind.u8 (3 : Int), Value.int IntKind.u8 (4 : Int)] 5)))) /\ ((Eq (α := Option Value) (some (Value.int IntKind.u8 (0 :
  Int))) (some (Value.int IntKind.u8 (cellI [Value.int IntKind.u8 (0 : Int), Value.int IntKind.u8 (0 : Int), Value.int IntKind.u8 (8 : Int), Value.int IntKind.u8 (6 : Int),
  Value.int IntKind.u8 (0 : Int), Value.int IntKind.u8 (0 : Int), Value.int IntKind.u8 (0 : Int), Value.int IntKind.u8 (0 : Int), Value.int IntKind.u8 (0 : Int), Value.int
  IntKind.u8 (IntKind.wrap IntKind.u8 (cellI (gC enU g.1) (0 + Int.toNat (↑s.1 : Int) * 1))), Value.int IntKind.u8 (IntKind.wrap IntKind.u8 (ishr IntKind.u32 (cellI (gC enU
  g.1) (0 + Int.toNat (↑s.1 : Int) * 1)) (8 : Int))), Value.int IntKind.u8 (IntKind.wrap IntKind.u8 (ishr IntKind.u32 (cellI (gC enU g.1) (0 + Int.toNat (↑s.1 : Int) * 1))
  (16 : Int))), Value.int IntKind.u8 (IntKind.wrap IntKind.u8 (ishr IntKind.u32 (cellI (gC enU g.1) (0 + Int.toNat (↑s.1 : Int) * 1)) (24 : Int))), Value.int IntKind.u8 (1 :
  Int), Value.int IntKind.u8 (2 : Int), Value.int IntKind.u8 (3 : Int), Value.int IntKind.u8 (4 : Int)] 6)))) /\ ((Eq (α := Option Value) (some (Value.int IntKind.u8 (0 :
  Int))) (some (Value.int IntKind.u8 (cellI [Value.int IntKind.u8 (0 : Int), Value.int IntKind.u8 (0 : Int), Value.int IntKind.u8 (8 : Int), Value.int IntKind.u8 (6 : Int),
  Value.int IntKind.u8 (0 : Int), Value.int IntKind.u8 (0 : Int), Value.int IntKind.u8 (0 : Int), Value.int IntKind.u8 (0 : Int), Value.int IntKind.u8 (0 : Int), Value.int
  IntKind.u8 (IntKind.wrap IntKind.u8 (cellI (gC enU g.1) (0 + Int.toNat (↑s.1 : Int) * 1))), Value.int IntKind.u8 (IntKind.wrap IntKind.u8 (ishr IntKind.u32 (cellI (gC enU
  g.1) (0 + Int.toNat (↑s.1 : Int) * 1)) (8 : Int))), Value.int IntKind.u8 (IntKind.wrap IntKind.u8 (ishr IntKind.u32 (cellI (gC enU g.1) (0 + Int.toNat (↑s.1 : Int) * 1))
  (16 : Int))), Value.int IntKind.u8 (IntKind.wrap IntKind.u8 (ishr IntKind.u32 (cellI (gC enU g.1) (0 + Int.toNat (↑s.1 : Int) * 1)) (24 : Int))), Value.int IntKind.u8 (1 :
  Int), Value.int IntKind.u8 (2 : Int), Value.int IntKind.u8 (3 : Int), Value.int IntKind.u8 (4 : Int)] 7)))) /\ ((Eq (α := Option Value) (some (Value.int IntKind.u8 (0 :
  Int))) (some (Value.int IntKind.u8 (cellI [Value.int IntKind.u8 (0 : Int), Value.int IntKind.u8 (0 : Int), Value.int IntKind.u8 (8 : Int), Value.int IntKind.u8 (6 : Int),
  Value.int IntKind.u8 (0 : Int), Value.int IntKind.u8 (0 : Int), Value.int IntKind.u8 (0 : Int), Value.int IntKind.u8 (0 : Int), Value.int IntKind.u8 (0 : Int), Value.int
  IntKind.u8 (IntKind.wrap IntKind.u8 (cellI (gC enU g.1) (0 + Int.toNat (↑s.1 : Int) * 1))), Value.int IntKind.u8 (IntKind.wrap IntKind.u8 (ishr IntKind.u32 (cellI (gC enU
  g.1) (0 + Int.toNat (↑s.1 : Int) * 1)) (8 : Int))), Value.int IntKind.u8 (IntKind.wrap IntKind.u8 (ishr IntKind.u32 (cellI (gC enU g.1) (0 + Int.toNat (↑s.1 : Int) * 1))
  (16 : Int))), Value.int IntKind.u8 (IntKind.wrap IntKind.u8 (ishr IntKind.u32 (cellI (gC enU g.1) (0 + Int.toNat (↑s.1 : Int) * 1)) (24 : Int))), Value.int IntKind.u8 (1 :
  Int), Value.int IntKind.u8 (2 : Int), Value.int IntKind.u8 (3 : Int), Value.int IntKind.u8 (4 : Int)] 8)))) /\ ((Eq (α := Option Value) (some (Value.int IntKind.u8 (6 :
  Int))) (some (Value.int IntKind.u8 (cellI [Value.int IntKind.u8 (0 : Int), Value.int IntKind.u8 (0 : Int), Value.int IntKind.u8 (8 : Int), Value.int IntKind.u8 (6 : Int),
  Value.int IntKind.u8 (0 : Int), Value.int IntKind.u8 (0 : Int), Value.int IntKind.u8 (0 : Int), Value.int IntKind.u8 (0 : Int), Value.int IntKind.u8 (0 : Int), Value.int
  IntKind.u8 (IntKind.wrap IntKind.u8 (cellI (gC enU g.1) (0 + Int.toNat (↑s.1 : Int) * 1))), Value.int IntKind.u8 (IntKind.wrap IntKind.u8 (ishr IntKind.u32 (cellI (gC enU
  g.1) (0 + Int.toNat (↑s.1 : Int) * 1)) (8 : Int))), Value.int IntKind.u8 (IntKind.wrap IntKind.u8 (ishr IntKind.u32 (cellI (gC enU g.1) (0 + Int.toNat (↑s.1 : Int) * 1))
  (16 : Int))), Value.int IntKind.u8 (IntKind.wrap IntKind.u8 (ishr IntKind.u32 (cellI (gC enU g.1) (0 + Int.toNat (↑s.1 : Int) * 1)) (24 : Int))), Value.int IntKind.u8 (1 :
  Int), Value.int IntKind.u8 (2 : Int), Value.int IntKind.u8 (3 : Int), Value.int IntKind.u8 (4 : Int)] 3)))) /\ ((Eq (α := Option Value) (some (Value.int IntKind.u8 (0 :
  Int))) (some (Value.int IntKind.u8 (cellI [Value.int IntKind.u8 (0 : Int), Value.int IntKind.u8 (0 : Int), Value.int IntKind.u8 (8 : Int), Value.int IntKind.u8 (6 : Int),
  Value.int IntKind.u8 (0 : Int), Value.int IntKind.u8 (0 : Int), Value.int IntKind.u8 (0 : Int), Value.int IntKind.u8 (0 : Int), Value.int IntKind.u8 (0 : Int), Value.int
  IntKind.u8 (IntKind.wrap IntKind.u8 (cellI (gC enU g.1) (0 + Int.toNat (↑s.1 : Int) * 1))), Value.int IntKind.u8 (IntKind.wrap IntKind.u8 (ishr IntKind.u32 (cellI (gC enU
  g.1) (0 + Int.toNat (↑s.1 : Int) * 1)) (8 : Int))), Value.int IntKind.u8 (IntKind.wrap IntKind.u8 (ishr IntKind.u32 (cellI (gC enU g.1) (0 + Int.toNat (↑s.1 : Int) * 1))
  (16 : Int))), Value.int IntKind.u8 (IntKind.wrap IntKind.u8 (ishr IntKind.u32 (cellI (gC enU g.1) (0 + Int.toNat (↑s.1 : Int) * 1)) (24 : Int))), Value.int IntKind.u8 (1 :
  Int), Value.int IntKind.u8 (2 : Int), Value.int IntKind.u8 (3 : Int), Value.int IntKind.u8 (4 : Int)] 4)))) /\ ((Eq (α := Option Value) (some (Value.int IntKind.u8 (6 :
  Int))) (some (Value.int IntKind.u8 (cellI [Value.int IntKind.u8 (0 : Int), Value.int IntKind.u8 (0 : Int), Value.int IntKind.u8 (8 : Int), Value.int IntKind.u8 (6 : Int),
  Value.int IntKind.u8 (0 : Int), Value.int IntKind.u8 (0 : Int), Value.int IntKind.u8 (0 : Int), Value.int IntKind.u8 (0 : Int), Value.int IntKind.u8 (0 : Int), Value.int
  IntKind.u8 (IntKind.wrap IntKind.u8 (cellI (gC enU g.1) (0 + Int.toNat (↑s.1 : Int) * 1))), Value.int IntKind.u8 (IntKind.wrap IntKind.u8 (ishr IntKind.u32 (cellI (gC enU
  g.1) (0 + Int.toNat (↑s.1 : Int) * 1)) (8 : Int))), Value.int IntKind.u8 (IntKind.wrap IntKind.u8 (ishr IntKind.u32 (cellI (gC enU g.1) (0 + Int.toNat (↑s.1 : Int) * 1))
  (16 : Int))), Value.int IntKind.u8 (IntKind.wrap IntKind.u8 (ishr IntKind.u32 (cellI (gC enU g.1) (0 + Int.toNat (↑s.1 : Int) * 1)) (24 : Int))), Value.int IntKind.u8 (1 :
  Int), Value.int IntKind.u8 (2 : Int), Value.int IntKind.u8 (3 : Int), Value.int IntKind.u8 (4 : Int)] 3)))) /\ ((Eq (α := Option Value) (some (Value.int IntKind.u8 (6 :
  Int))) (some (Value.int IntKind.u8 (cellI [Value.int IntKind.u8 (0 : Int), Value.int IntKind.u8 (0 : Int), Value.int IntKind.u8 (8 : Int), Value.int IntKind.u8 (6 : Int),
  Value.int IntKind.u8 (0 : Int), Value.int IntKind.u8 (0 : Int), Value.int IntKind.u8 (0 : Int), Value.int IntKind.u8 (0 : Int), Value.int IntKind.u8 (0 : Int), Value.int
  IntKind.u8 (IntKind.wrap IntKind.u8 (cellI (gC enU g.1) (0 + Int.toNat (↑s.1 : Int) * 1))), Value.int IntKind.u8 (IntKind.wrap IntKind.u8 (ishr IntKind.u32 (cellI (gC enU
  g.1) (0 + Int.toNat (↑s.1 : Int) * 1)) (8 : Int))), Value.int IntKind.u8 (IntKind.wrap IntKind.u8 (ishr IntKind.u32 (cellI (gC enU g.1) (0 + Int.toNat (↑s.1 : Int) * 1))
  (16 : Int))), Value.int IntKind.u8 (IntKind.wrap IntKind.u8 (ishr IntKind.u32 (cellI (gC enU g.1) (0 + Int.toNat (↑s.1 : Int) * 1)) (24 : Int))), Value.int IntKind.u8 (1 :
  Int), Value.int IntKind.u8 (2 : Int), Value.int IntKind.u8 (3 : Int), Value.int IntKind.u8 (4 : Int)] 3)))) /\ ((Eq (α := Option Value) (some (Value.int IntKind.u8 (0 :
  Int))) (some (Value.int IntKind.u8 (cellI [Value.int IntKind.u8 (0 : Int), Value.int IntKind.u8 (0 : Int), Value.int IntKind.u8 (8 : Int), Value.int IntKind.u8 (6 : Int),
  Value.int IntKind.u8 (0 : Int), Value.int IntKind.u8 (0 : Int), Value.int IntKind.u8 (0 : Int), Value.int IntKind.u8 (0 : Int), Value.int IntKind.u8 (0 : Int), Value.int
  IntKind.u8 (IntKind.wrap IntKind.u8 (cellI (gC enU g.1) (0 + Int.toNat (↑s.1 : Int) * 1))), Value.int IntKind.u8 (IntKind.wrap IntKind.u8 (ishr IntKind.u32 (cellI (gC enU
  g.1) (0 + Int.toNat (↑s.1 : Int) * 1)) (8 : Int))), Value.int IntKind.u8 (IntKind.wrap IntKind.u8 (ishr IntKind.u32 (cellI (gC enU g.1) (0 + Int.toNat (↑s.1 : Int) * 1))
  (16 : Int))), Value.int IntKind.u8 (IntKind.wrap IntKind.u8 (ishr IntKind.u32 (cellI (gC enU g.1) (0 + Int.toNat (↑s.1 : Int) * 1)) (24 : Int))), Value.int IntKind.u8 (1 :
  Int), Value.int IntKind.u8 (2 : Int), Value.int IntKind.u8 (3 : Int), Value.int IntKind.u8 (4 : Int)] 4)))) /\ ((Eq (α := Option Value) (some (Value.int IntKind.u8 (0 :
  Int))) (some (Value.int IntKind.u8 (cellI [Value.int IntKind.u8 (0 : Int), Value.int IntKind.u8 (0 : Int), Value.int IntKind.u8 (8 : Int), Value.int IntKind.u8 (6 : Int),
  Value.int IntKind.u8 (0 : Int), Value.int IntKind.u8 (0 : Int), Value.int IntKind.u8 (0 : Int), Value.int IntKind.u8 (0 : Int), Value.int IntKind.u8 (0 : Int), Value.int
  IntKind.u8 (IntKind.wrap IntKind.u8 (cellI (gC enU g.1) (0 + Int.toNat (↑s.1 : Int) * 1))), Value.int IntKind.u8 (IntKind.wrap IntKind.u8 (ishr IntKind.u32 (cellI (gC enU
  g.1) (0 + Int.toNat (↑s.1 : Int) * 1)) (8 : Int))), Value.int IntKind.u8 (IntKind.wrap IntKind.u8 (ishr IntKind.u32 (cellI (gC enU g.1) (0 + Int.toNat (↑s.1 : Int) * 1))
  (16 : Int))), Value.int IntKind.u8 (IntKind.wrap IntKind.u8 (ishr IntKind.u32 (cellI (gC enU g.1) (0 + Int.toNat (↑s.1 : Int) * 1)) (24 : Int))), Value.int IntKind.u8 (1 :
  Int), Value.int IntKind.u8 (2 : Int), Value.int IntKind.u8 (3 : Int), Value.int IntKind.u8 (4 : Int)] 4)))) /\ (br (decide (IntKind.wrap IntKind.i64 (Int.ofNat
  (List.length s.2) + Int.ofNat 17) > (262144 : Int))) (br (decide (List.length s.2 + 17 <= 16777216)) (br (decide (s.4 + List.length s.2 * 1 <= List.length (bCells s.3)))
  (br (veq 20 (Value.slice (some (Addr.mk 3 s.4 none)) (List.length s.2) 1) (Value.slice (some (Addr.mk 3 s.4 none)) (List.length s.2) 1)) (br (veq 20 (Value.slice (some
  (Addr.mk 3 s.4 none)) (List.length s.2) 1) (Value.slice (some (Addr.mk 3 s.4 none)) (List.length s.2) 1)) False False) False) False) False) (br (decide (List.length s.2 +
  17 <= 16777216)) (br (decide (s.4 + List.length s.2 * 1 <= List.length (bCells s.3))) (∃ j : PS, ((Inv j) /\ ((m j < m s) /\ ((0 = 0) /\ ((List.length g.1 = List.length
  g.1) /\ ((0 = 0) /\ ((List.length g.2 = List.length g.2) /\ ((0 = 0) /\ ((0 = 0) /\ ((List.length j.2 = 0 + List.length s.2 + 9 + 8) /\ (((↑j.1 : Int) = IntKind.wrap
  IntKind.i64 ((↑s.1 : Int) + (1 : Int))) /\ ((Eq (α := List Value) (gC enU g.1) (gC enU g.1)) /\ ((Plain (gC enU g.1)) /\ ((Eq (α := List Value) (gC enB g.2) (gC enB g.2))
  /\ ((Plain (gC enB g.2)) /\ ((true = true) /\ (((2 : Int) = (2 : Int)) /\ (((65535 : Int) = (65535 : Int)) /\ (((65536 : Int) = (65536 : Int)) /\ (((4096 : Int) = (4096 :
  Int)) /\ (((2147483647 : Int) = (2147483647 : Int)) /\ (((65535 : Int) = (65535 : Int)) /\ (((16384 : Int) = (16384 : Int)) /\ (((2147483647 : Int) = (2147483647 : Int))
  /\ ((j.4 = 0) /\ ((List.length j.2 = List.length s.2 + 17) /\ ((0 = 0) /\ ((0 = 0) /\ ((0 = 0) /\ (((65535 : Int) = (65535 : Int)) /\ (((65535 : Int) = (65535 : Int)) /\
  (((0 : Int) = (0 : Int)) /\ (((1 : Int) = (1 : Int)) /\ ((true = true) /\ ((false = false) /\ ((false = false) /\ ((false = false) /\ ((false = false) /\ (((0 : Int) = (0
  : Int)) /\ ((false = false) /\ ((Eq (α := List Value) (bCells j.3) (List.take (List.length s.2 * 1) (List.drop s.4 (bCells s.3)) ++ [Value.int IntKind.u8 (IntKind.wrap
  IntKind.u8 (ishr IntKind.i64 (Int.ofNat 8) (16 : Int))), Value.int IntKind.u8 (IntKind.wrap IntKind.u8 (ishr IntKind.i64 (Int.ofNat 8) (8 : Int))), Value.int IntKind.u8
  (IntKind.wrap IntKind.u8 (Int.ofNat 8)), Value.int IntKind.u8 (6 : Int), Value.int IntKind.u8 (1 : Int), Value.int IntKind.u8 (0 : Int), Value.int IntKind.u8 (0 : Int),
  Value.int IntKind.u8 (0 : Int), Value.int IntKind.u8 (0 : Int), Value.int IntKind.u8 (IntKind.wrap IntKind.u8 (cellI (gC enU g.1) (0 + Int.toNat (↑s.1 : Int) * 1))),
  Value.int IntKind.u8 (IntKind.wrap IntKind.u8 (ishr IntKind.u32 (cellI (gC enU g.1) (0 + Int.toNat (↑s.1 : Int) * 1)) (8 : Int))), Value.int IntKind.u8 (IntKind.wrap
  IntKind.u8 (ishr IntKind.u32 (cellI (gC enU g.1) (0 + Int.toNat (↑s.1 : Int) * 1)) (16 : Int))), Value.int IntKind.u8 (IntKind.wrap IntKind.u8 (ishr IntKind.u32 (cellI (gC
  enU g.1) (0 + Int.toNat (↑s.1 : Int) * 1)) (24 : Int))), Value.int IntKind.u8 (1 : Int), Value.int IntKind.u8 (2 : Int), Value.int IntKind.u8 (3 : Int), Value.int
  IntKind.u8 (4 : Int)])) /\ ((Plain (bCells j.3)) /\ ((17 = 17) /\ ((0 = 0) /\ (((16384 : Int) = (16384 : Int)) /\ ((ByteArray.mk #[] = ByteArray.mk #[]) /\ (((0 : Int) =
  (0 : Int)) /\ (((0 : Int) = (0 : Int)) /\ (((0 : Int) = (0 : Int)) /\ ((Eq (α := List Value) ([Value.int IntKind.u8 (0 : Int), Value.int IntKind.u8 (0 : Int), Value.int
  IntKind.u8 (8 : Int), Value.int IntKind.u8 (6 : Int), Value.int IntKind.u8 j.5, Value.int IntKind.u8 (0 : Int), Value.int IntKind.u8 (0 : Int), Value.int IntKind.u8 (0 :
  Int), Value.int IntKind.u8 (0 : Int), Value.int IntKind.u8 j.6, Value.int IntKind.u8 j.7, Value.int IntKind.u8 j.8, Value.int IntKind.u8 j.9, Value.int IntKind.u8 (1 :
  Int), Value.int IntKind.u8 (2 : Int), Value.int IntKind.u8 (3 : Int), Value.int IntKind.u8 (4 : Int)]) ([Value.int IntKind.u8 (0 : Int), Value.int IntKind.u8 (0 : Int),
  Value.int IntKind.u8 (8 : Int), Value.int IntKind.u8 (6 : Int), Value.int IntKind.u8 (0 : Int), Value.int IntKind.u8 (0 : Int), Value.int IntKind.u8 (0 : Int), Value.int
  IntKind.u8 (0 : Int), Value.int IntKind.u8 (0 : Int), Value.int IntKind.u8 (IntKind.wrap IntKind.u8 (cellI (gC enU g.1) (0 + Int.toNat (↑s.1 : Int) * 1))), Value.int
  IntKind.u8 (IntKind.wrap IntKind.u8 (ishr IntKind.u32 (cellI (gC enU g.1) (0 + Int.toNat (↑s.1 : Int) * 1)) (8 : Int))), Value.int IntKind.u8 (IntKind.wrap IntKind.u8
  (ishr IntKind.u32 (cellI (gC enU g.1) (0 + Int.toNat (↑s.1 : Int) * 1)) (16 : Int))), Value.int IntKind.u8 (IntKind.wrap IntKind.u8 (ishr IntKind.u32 (cellI (gC enU g.1)
  (0 + Int.toNat (↑s.1 : Int) * 1)) (24 : Int))), Value.int IntKind.u8 (1 : Int), Value.int IntKind.u8 (2 : Int), Value.int IntKind.u8 (3 : Int), Value.int IntKind.u8 (4 :
  Int)])) /\ ((Plain [Value.int IntKind.u8 (0 : Int), Value.int IntKind.u8 (0 : Int), Value.int IntKind.u8 (8 : Int), Value.int IntKind.u8 (6 : Int), Value.int IntKind.u8
  j.5, Value.int IntKind.u8 (0 : Int), Value.int IntKind.u8 (0 : Int), Value.int IntKind.u8 (0 : Int), Value.int IntKind.u8 (0 : Int), Value.int IntKind.u8 j.6, Value.int
  IntKind.u8 j.7, Value.int IntKind.u8 j.8, Value.int IntKind.u8 j.9, Value.int IntKind.u8 (1 : Int), Value.int IntKind.u8 (2 : Int), Value.int IntKind.u8 (3 : Int),
  Value.int IntKind.u8 (4 : Int)]) /\ ((Eq (α := List Value) (bCells j.2) (List.take ((0 + List.length s.2 + 9) * 1) (List.drop 0 (List.take ((0 + List.length s.2) * 1)
  (List.drop 0 ([] ++ List.take (List.length s.2 * 1) (List.drop 0 (bCells s.2)))) ++ [Value.int IntKind.u8 (0 : Int), Value.int IntKind.u8 (0 : Int), Value.int IntKind.u8
  (8 : Int), Value.int IntKind.u8 (6 : Int), Value.int IntKind.u8 (1 : Int), Value.int IntKind.u8 (0 : Int), Value.int IntKind.u8 (0 : Int), Value.int IntKind.u8 (0 : Int),
  Value.int IntKind.u8 (0 : Int)])) ++ [Value.int IntKind.u8 (IntKind.wrap IntKind.u8 (cellI (gC enU g.1) (0 + Int.toNat (↑s.1 : Int) * 1))), Value.int IntKind.u8
  (IntKind.wrap IntKind.u8 (ishr IntKind.u32 (cellI (gC enU g.1) (0 + Int.toNat (↑s.1 : Int) * 1)) (8 : Int))), Value.int IntKind.u8 (IntKind.wrap IntKind.u8 (ishr
  IntKind.u32 (cellI (gC enU g.1) (0 + Int.toNat (↑s.1 : Int) * 1)) (16 : Int))), Value.int IntKind.u8 (IntKind.wrap IntKind.u8 (ishr IntKind.u32 (cellI (gC enU g.1) (0 +
  Int.toNat (↑s.1 : Int) * 1)) (24 : Int))), Value.int IntKind.u8 (1 : Int), Value.int IntKind.u8 (2 : Int), Value.int IntKind.u8 (3 : Int), Value.int IntKind.u8 (4 :
  Int)])) /\ ((Plain (bCells j.2)) /\ ((0 = 0) /\ (((4096 : Int) = (4096 : Int)) /\ (((65536 : Int) = (65536 : Int)) /\ ((false = false) /\ ((0 = 0) /\ ((false = false) /\
  (((0 : Int) = (0 : Int)) /\ (((0 : Int) = (0 : Int)) /\ (((4096 : Int) = (4096 : Int)) /\ (((0 : Int) = (0 : Int)) /\ (((4096 : Int) = (4096 : Int)) /\
  True)))))))))))))))))))))))))))))))))))))))))))))))))))))))))))))))) False) False)))))))))))))))))))))) False) False) False) False) False) False) False)) False) False))
  False) False)) False) False)) False) False))) False)) False)) False)) False) (∃ y : PX, ((okS y) /\ ((0 = 0) /\ ((0 = 0) /\ ((List.length y.1 = List.length s.2) /\ ((Eq (α
  := List Value) (gC enU g.1) (gC enU g.1)) /\ ((Plain (gC enU g.1)) /\ ((Eq (α := List Value) (gC enB g.2) (gC enB g.2)) /\ ((Plain (gC enB g.2)) /\ ((true = true) /\ (((2
  : Int) = (2 : Int)) /\ (((65535 : Int) = (65535 : Int)) /\ (((65536 : Int) = (65536 : Int)) /\ (((4096 : Int) = (4096 : Int)) /\ (((2147483647 : Int) = (2147483647 : Int))
  /\ (((65535 : Int) = (65535 : Int)) /\ (((16384 : Int) = (16384 : Int)) /\ (((2147483647 : Int) = (2147483647 : Int)) /\ ((y.3 = s.4) /\ ((List.length y.1 = List.length
  s.2) /\ ((0 = 0) /\ ((0 = 0) /\ ((0 = 0) /\ (((65535 : Int) = (65535 : Int)) /\ (((65535 : Int) = (65535 : Int)) /\ (((0 : Int) = (0 : Int)) /\ (((1 : Int) = (1 : Int)) /\
  ((true = true) /\ ((false = false) /\ ((false = false) /\ ((false = false) /\ ((false = false) /\ (((0 : Int) = (0 : Int)) /\ ((false = false) /\ ((Eq (α := List Value)
  (bCells y.2) (bCells s.3)) /\ ((Plain (bCells y.2)) /\ ((y.5 = 17) /\ ((0 = 0) /\ (((16384 : Int) = (16384 : Int)) /\ ((ByteArray.mk #[] = ByteArray.mk #[]) /\ (((0 : Int)
  = (0 : Int)) /\ (((0 : Int) = (0 : Int)) /\ (((0 : Int) = (0 : Int)) /\ ((Eq (α := List Value) (y.4) ([Value.int IntKind.u8 (0 : Int), Value.int IntKind.u8 (0 : Int),
  Value.int IntKind.u8 (8 : Int), Value.int IntKind.u8 (6 : Int), Value.int IntKind.u8 s.5, Value.int IntKind.u8 (0 : Int), Value.int IntKind.u8 (0 : Int), Value.int
  IntKind.u8 (0 : Int), Value.int IntKind.u8 (0 : Int), Value.int IntKind.u8 s.6, Value.int IntKind.u8 s.7, Value.int IntKind.u8 s.8, Value.int IntKind.u8 s.9, Value.int
  IntKind.u8 (1 : Int), Value.int IntKind.u8 (2 : Int), Value.int IntKind.u8 (3 : Int), Value.int IntKind.u8 (4 : Int)])) /\ ((Plain y.4) /\ ((Eq (α := List Value) (bCells
  y.1) (bCells s.2)) /\ ((Plain (bCells y.1)) /\ ((0 = 0) /\ (((4096 : Int) = (4096 : Int)) /\ (((65536 : Int) = (65536 : Int)) /\ ((false = false) /\ ((0 = 0) /\ ((false =
  false) /\ (((0 : Int) = (0 : Int)) /\ (((0 : Int) = (0 : Int)) /\ (((4096 : Int) = (4096 : Int)) /\ (((0 : Int) = (0 : Int)) /\ (((4096 : Int) = (4096 : Int)) /\
  True))))))))))))))))))))))))))))))))))))))))))))))))))))))))))) (∃ y : PX, ((okS y) /\ ((0 = 0) /\ ((0 = 0) /\ ((List.length y.1 = List.length s.2) /\ ((Eq (α := List
  Value) (gC enU g.1) (gC enU g.1)) /\ ((Plain (gC enU g.1)) /\ ((Eq (α := List Value) (gC enB g.2) (gC enB g.2)) /\ ((Plain (gC enB g.2)) /\ ((true = true) /\ (((2 : Int) =
  (2 : Int)) /\ (((65535 : Int) = (65535 : Int)) /\ (((65536 : Int) = (65536 : Int)) /\ (((4096 : Int) = (4096 : Int)) /\ (((2147483647 : Int) = (2147483647 : Int)) /\
  (((65535 : Int) = (65535 : Int)) /\ (((16384 : Int) = (16384 : Int)) /\ (((2147483647 : Int) = (2147483647 : Int)) /\ ((y.3 = s.4) /\ ((List.length y.1 = List.length s.2)
  /\ ((0 = 0) /\ ((0 = 0) /\ ((0 = 0) /\ (((65535 : Int) = (65535 : Int)) /\ (((65535 : Int) = (65535 : Int)) /\ (((0 : Int) = (0 : Int)) /\ (((1 : Int) = (1 : Int)) /\
  ((true = true) /\ ((false = false) /\ ((false = false) /\ ((false = false) /\ ((false = false) /\ (((0 : Int) = (0 : Int)) /\ ((false = false) /\ ((Eq (α := List Value)
  (bCells y.2) (bCells s.3)) /\ ((Plain (bCells y.2)) /\ ((y.5 = 17) /\ ((0 = 0) /\ (((16384 : Int) = (16384 : Int)) /\ ((ByteArray.mk #[] = ByteArray.mk #[]) /\ (((0 : Int)
  = (0 : Int)) /\ (((0 : Int) = (0 : Int)) /\ (((0 : Int) = (0 : Int)) /\ ((Eq (α := List Value) (y.4) ([Value.int IntKind.u8 (0 : Int), Value.int IntKind.u8 (0 : Int),
  Value.int IntKind.u8 (8 : Int), Value.int IntKind.u8 (6 : Int), Value.int IntKind.u8 s.5, Value.int IntKind.u8 (0 : Int), Value.int IntKind.u8 (0 : Int), Value.int
  IntKind.u8 (0 : Int), Value.int IntKind.u8 (0 : Int), Value.int IntKind.u8 s.6, Value.int IntKind.u8 s.7, Value.int IntKind.u8 s.8, Value.int IntKind.u8 s.9, Value.int
  IntKind.u8 (1 : Int), Value.int IntKind.u8 (2 : Int), Value.int IntKind.u8 (3 : Int), Value.int IntKind.u8 (4 : Int)])) /\ ((Plain y.4) /\ ((Eq (α := List Value) (bCells
  y.1) (bCells s.2)) /\ ((Plain (bCells y.1)) /\ ((0 = 0) /\ (((4096 : Int) = (4096 : Int)) /\ (((65536 : Int) = (65536 : Int)) /\ ((false = false) /\ ((0 = 0) /\ ((false =
  false) /\ (((0 : Int) = (0 : Int)) /\ (((0 : Int) = (0 : Int)) /\ (((4096 : Int) = (4096 : Int)) /\ (((0 : Int) = (0 : Int)) /\ (((4096 : Int) = (4096 : Int)) /\
  True))))))))))))))))))))))))))))))))))))))))))))))))))))))))))) := by kernel_rfl
theorem P_vc (l : List Nat) (a : List Bool) : mcall ECp mP 60 7 [.slice (some ⟨0, 0, none⟩) l.length 1, .slice (some ⟨1, 0, none⟩) a.length 1] ⟨mkR (nums 0 [gRo enU l, gRo enB a]), 2⟩ (retIs 2 (.bool true) [gRo enU l, gRo enB a]) =
  (((((True /\ (True /\ (True /\ True))) /\ True) /\ (True /\ ((Plain [Value.int IntKind.u8 (0 : Int), Value.int IntKind.u8 (0 : Int), Value.int IntKind.u8 (18 : Int),
  Value.int IntKind.u8 (4 : Int), Value.int IntKind.u8 (0 : Int), Value.int IntKind.u8 (0 : Int), Value.int IntKind.u8 (0 : Int), Value.int IntKind.u8 (0 : Int), Value.int
  IntKind.u8 (0 : Int), Value.int IntKind.u8 (0 : Int), Value.int IntKind.u8 (3 : Int), Value.int IntKind.u8 (0 : Int), Value.int IntKind.u8 (0 : Int), Value.int IntKind.u8
  (0 : Int), Value.int IntKind.u8 (2 : Int), Value.int IntKind.u8 (0 : Int), Value.int IntKind.u8 (4 : Int), Value.int IntKind.u8 (0 : Int), Value.int IntKind.u8 (0 : Int),
  Value.int IntKind.u8 (255 : Int), Value.int IntKind.u8 (255 : Int), Value.int IntKind.u8 (0 : Int), Value.int IntKind.u8 (6 : Int), Value.int IntKind.u8 (0 : Int),
  Value.int IntKind.u8 (1 : Int), Value.int IntKind.u8 (0 : Int), Value.int IntKind.u8 (0 : Int), Value.int IntKind.u8 (0 : Int), Value.int IntKind.u8 (0 : Int), Value.int
  IntKind.u8 (0 : Int), Value.int IntKind.u8 (4 : Int), Value.int IntKind.u8 (1 : Int), Value.int IntKind.u8 (0 : Int), Value.int IntKind.u8 (0 : Int), Value.int IntKind.u8
  (0 : Int), Value.int IntKind.u8 (0 : Int)] /\ (Plain [Value.int IntKind.u8 (0 : Int), Value.int IntKind.u8 (0 : Int), Value.int IntKind.u8 (0 : Int), Value.int IntKind.u8
  (4 : Int), Value.int IntKind.u8 (0 : Int), Value.int IntKind.u8 (0 : Int), Value.int IntKind.u8 (0 : Int), Value.int IntKind.u8 (0 : Int), Value.int IntKind.u8 (0 : Int)]
  /\ True)) /\ ((2 : Int) = (2 : Int) /\ ((65535 : Int) = (65535 : Int) /\ (65536 : Int) = (65536 : Int))))))) /\ (∃ g : GP, ((okGP g) /\ ((0 = 0) /\ ((List.length g.1 =
  List.length l) /\ ((0 = 0) /\ ((List.length g.2 = List.length a) /\ ((0 = 0) /\ ((0 = 0) /\ (((0 : Int) = (0 : Int)) /\ ((Eq (α := List Value) (gC enU g.1) (gC enU l)) /\
  ((Plain (gC enU g.1)) /\ ((Eq (α := List Value) (gC enB g.2) (gC enB a)) /\ ((Plain (gC enB g.2)) /\ ((true = true) /\ (((2 : Int) = (2 : Int)) /\ (((65535 : Int) = (65535
  : Int)) /\ (((65536 : Int) = (65536 : Int)) /\ (((4096 : Int) = (4096 : Int)) /\ (((2147483647 : Int) = (2147483647 : Int)) /\ (((65535 : Int) = (65535 : Int)) /\ (((16384
  : Int) = (16384 : Int)) /\ (((2147483647 : Int) = (2147483647 : Int)) /\ ((36 = 36) /\ ((0 = 0) /\ ((0 = 0) /\ ((0 = 0) /\ ((0 = 0) /\ (((65535 : Int) = (65535 : Int)) /\
  (((65535 : Int) = (65535 : Int)) /\ (((0 : Int) = (0 : Int)) /\ (((1 : Int) = (1 : Int)) /\ ((true = true) /\ ((false = false) /\ ((false = false) /\ ((false = false) /\
  ((false = false) /\ (((0 : Int) = (0 : Int)) /\ ((false = false) /\ ((Eq (α := List Value) ([Value.int IntKind.u8 (0 : Int), Value.int IntKind.u8 (0 : Int), Value.int
  IntKind.u8 (18 : Int), Value.int IntKind.u8 (4 : Int), Value.int IntKind.u8 (0 : Int), Value.int IntKind.u8 (0 : Int), Value.int IntKind.u8 (0 : Int), Value.int IntKind.u8
  (0 : Int), Value.int IntKind.u8 (0 : Int), Value.int IntKind.u8 (0 : Int), Value.int IntKind.u8 (3 : Int), Value.int IntKind.u8 (0 : Int), Value.int IntKind.u8 (0 : Int),
  Value.int IntKind.u8 (0 : Int), Value.int IntKind.u8 (2 : Int), Value.int IntKind.u8 (0 : Int), Value.int IntKind.u8 (4 : Int), Value.int IntKind.u8 (0 : Int), Value.int
  IntKind.u8 (0 : Int), Value.int IntKind.u8 (255 : Int), Value.int IntKind.u8 (255 : Int), Value.int IntKind.u8 (0 : Int), Value.int IntKind.u8 (6 : Int), Value.int
  IntKind.u8 (0 : Int), Value.int IntKind.u8 (1 : Int), Value.int IntKind.u8 (0 : Int), Value.int IntKind.u8 (0 : Int), Value.int IntKind.u8 (0 : Int), Value.int IntKind.u8
  (0 : Int), Value.int IntKind.u8 (0 : Int), Value.int IntKind.u8 (4 : Int), Value.int IntKind.u8 (1 : Int), Value.int IntKind.u8 (0 : Int), Value.int IntKind.u8 (0 : Int),
  Value.int IntKind.u8 (0 : Int), Value.int IntKind.u8 (0 : Int)]) ([Value.int IntKind.u8 (0 : Int), Value.int IntKind.u8 (0 : Int), Value.int IntKind.u8 (18 : Int),
  Value.int IntKind.u8 (4 : Int), Value.int IntKind.u8 (0 : Int), Value.int IntKind.u8 (0 : Int), Value.int IntKind.u8 (0 : Int), Value.int IntKind.u8 (0 : Int), Value.int
  IntKind.u8 (0 : Int), Value.int IntKind.u8 (0 : Int), Value.int IntKind.u8 (3 : Int), Value.int IntKind.u8 (0 : Int), Value.int IntKind.u8 (0 : Int), Value.int IntKind.u8
  (0 : Int), Value.int IntKind.u8 (2 : Int), Value.int IntKind.u8 (0 : Int), Value.int IntKind.u8 (4 : Int), Value.int IntKind.u8 (0 : Int), Value.int IntKind.u8 (0 : Int),
  Value.int IntKind.u8 (255 : Int), Value.int IntKind.u8 (255 : Int), Value.int IntKind.u8 (0 : Int), Value.int IntKind.u8 (6 : Int), Value.int IntKind.u8 (0 : Int),
  Value.int IntKind.u8 (1 : Int), Value.int IntKind.u8 (0 : Int), Value.int IntKind.u8 (0 : Int), Value.int IntKind.u8 (0 : Int), Value.int IntKind.u8 (0 : Int), Value.int
  IntKind.u8 (0 : Int), Value.int IntKind.u8 (4 : Int), Value.int IntKind.u8 (1 : Int), Value.int IntKind.u8 (0 : Int), Value.int IntKind.u8 (0 : Int), Value.int IntKind.u8
  (0 : Int), Value.int IntKind.u8 (0 : Int)])) /\ ((Plain [Value.int IntKind.u8 (0 : Int), Value.int IntKind.u8 (0 : Int), Value.int IntKind.u8 (18 : Int), Value.int
  IntKind.u8 (4 : Int), Value.int IntKind.u8 (0 : Int), Value.int IntKind.u8 (0 : Int), Value.int IntKind.u8 (0 : Int), Value.int IntKind.u8 (0 : Int), Value.int IntKind.u8
  (0 : Int), Value.int IntKind.u8 (0 : Int), Value.int IntKind.u8 (3 : Int), Value.int IntKind.u8 (0 : Int), Value.int IntKind.u8 (0 : Int), Value.int IntKind.u8 (0 : Int),
  Value.int IntKind.u8 (2 : Int), Value.int IntKind.u8 (0 : Int), Value.int IntKind.u8 (4 : Int), Value.int IntKind.u8 (0 : Int), Value.int IntKind.u8 (0 : Int), Value.int
  IntKind.u8 (255 : Int), Value.int IntKind.u8 (255 : Int), Value.int IntKind.u8 (0 : Int), Value.int IntKind.u8 (6 : Int), Value.int IntKind.u8 (0 : Int), Value.int
  IntKind.u8 (1 : Int), Value.int IntKind.u8 (0 : Int), Value.int IntKind.u8 (0 : Int), Value.int IntKind.u8 (0 : Int), Value.int IntKind.u8 (0 : Int), Value.int IntKind.u8
  (0 : Int), Value.int IntKind.u8 (4 : Int), Value.int IntKind.u8 (1 : Int), Value.int IntKind.u8 (0 : Int), Value.int IntKind.u8 (0 : Int), Value.int IntKind.u8 (0 : Int),
  Value.int IntKind.u8 (0 : Int)]) /\ ((9 = 9) /\ ((0 = 0) /\ (((16384 : Int) = (16384 : Int)) /\ ((ByteArray.mk #[] = ByteArray.mk #[]) /\ (((0 : Int) = (0 : Int)) /\ (((0
  : Int) = (0 : Int)) /\ (((0 : Int) = (0 : Int)) /\ ((Eq (α := List Value) ([Value.int IntKind.u8 (0 : Int), Value.int IntKind.u8 (0 : Int), Value.int IntKind.u8 (0 : Int),
  Value.int IntKind.u8 (4 : Int), Value.int IntKind.u8 (0 : Int), Value.int IntKind.u8 (0 : Int), Value.int IntKind.u8 (0 : Int), Value.int IntKind.u8 (0 : Int), Value.int
  IntKind.u8 (0 : Int)]) ([Value.int IntKind.u8 (0 : Int), Value.int IntKind.u8 (0 : Int), Value.int IntKind.u8 (0 : Int), Value.int IntKind.u8 (4 : Int), Value.int
  IntKind.u8 (0 : Int), Value.int IntKind.u8 (0 : Int), Value.int IntKind.u8 (0 : Int), Value.int IntKind.u8 (0 : Int), Value.int IntKind.u8 (0 : Int)])) /\ ((Plain
  [Value.int IntKind.u8 (0 : Int), Value.int IntKind.u8 (0 : Int), Value.int IntKind.u8 (0 : Int), Value.int IntKind.u8 (4 : Int), Value.int IntKind.u8 (0 : Int), Value.int
  IntKind.u8 (0 : Int), Value.int IntKind.u8 (0 : Int), Value.int IntKind.u8 (0 : Int), Value.int IntKind.u8 (0 : Int)]) /\ ((Eq (α := List Value) ([]) ([])) /\ ((0 = 0) /\
  (((4096 : Int) = (4096 : Int)) /\ (((65536 : Int) = (65536 : Int)) /\ ((false = false) /\ ((0 = 0) /\ ((false = false) /\ (((0 : Int) = (0 : Int)) /\ (((0 : Int) = (0 :
  Int)) /\ (((4096 : Int) = (4096 : Int)) /\ (((0 : Int) = (0 : Int)) /\ (((4096 : Int) = (4096 : Int)) /\ (∀ (y : PX), ((okS y) → ((((True /\ (True /\ True)) /\ (((True /\
  (True /\ (True /\ (True /\ (True /\ (True /\ (True /\ (True /\ (True /\ (True /\ (True /\ (True /\ (True /\ (True /\ (True /\ (True /\ (True /\ (True /\ (True /\ (True /\
  (True /\ (True /\ (True /\ (True /\ (True /\ (True /\ (True /\ (True /\ True)))))))))))))))))))))))))))) /\ (Plain (bCells y.2) /\ ((True /\ (True /\ (True /\ (True /\
  (True /\ (True /\ True)))))) /\ ((True /\ (True /\ (True /\ (True /\ True)))) /\ ((True /\ (True /\ (True /\ True))) /\ (Plain y.4 /\ ((True /\ (True /\ (True /\ True)))
  /\ ((True /\ (True /\ (True /\ True))) /\ True)))))))) /\ ((Plain (bCells y.2) /\ (Plain (bCells (woZ (Row.mk (bCells y.2) false (Ob.cells true)) y.3)) /\ True)) /\
  (Row.mk [Value.bool true, Value.int IntKind.i64 (2 : Int), Value.int IntKind.i64 (65535 : Int), Value.int IntKind.i64 (65536 : Int), Value.int IntKind.i64 (4096 : Int),
  Value.int IntKind.i64 (2147483647 : Int), Value.int IntKind.i64 (65535 : Int), Value.int IntKind.i64 (16384 : Int), Value.int IntKind.i64 (2147483647 : Int), Value.slice
  (some (Addr.mk 1 y.3 none)) (List.length y.1) 1, Value.pointer (some (Addr.mk 2 0 none)), Value.pointer (some (Addr.mk 3 0 none)), Value.pointer (some (Addr.mk 4 0 none)),
  Value.int IntKind.i64 (65535 : Int), Value.int IntKind.i64 (65535 : Int), Value.slice none 0 0, Value.slice none 0 0, Value.int IntKind.i64 (0 : Int), Value.int
  IntKind.i64 (1 : Int), Value.bool true, Value.bool false, Value.bool false, Value.bool false, Value.bool false, Value.int IntKind.i64 (0 : Int), Value.slice none 0 0,
  Value.bool false, Value.slice none 0 0] false (Ob.cells false) = Row.mk [Value.bool true, Value.int IntKind.i64 (2 : Int), Value.int IntKind.i64 (65535 : Int), Value.int
  IntKind.i64 (65536 : Int), Value.int IntKind.i64 (4096 : Int), Value.int IntKind.i64 (2147483647 : Int), Value.int IntKind.i64 (65535 : Int), Value.int IntKind.i64 (16384
  : Int), Value.int IntKind.i64 (2147483647 : Int), Value.slice (some (Addr.mk 1 y.3 none)) (List.length y.1) 1, Value.pointer (some (Addr.mk 2 0 none)), Value.pointer (some
  (Addr.mk 3 0 none)), Value.pointer (some (Addr.mk 4 0 none)), Value.int IntKind.i64 (65535 : Int), Value.int IntKind.i64 (65535 : Int), Value.slice none 0 0, Value.slice
  none 0 0, Value.int IntKind.i64 (0 : Int), Value.int IntKind.i64 (1 : Int), Value.bool true, Value.bool false, Value.bool false, Value.bool false, Value.bool false,
  Value.int IntKind.i64 (0 : Int), Value.slice none 0 0, Value.bool false, Value.slice none 0 0] false (Ob.cells false) /\ (OkO (Row.mk (bCells y.2) false (Ob.cells true))
  y.3 (List.length y.1) (1048576 : Int) /\ ((0 = 0 /\ ((16384 : Int) = (16384 : Int) /\ (ByteArray.mk #[] = ByteArray.mk #[] /\ ((0 : Int) = (0 : Int) /\ ((0 : Int) = (0 :
  Int) /\ (0 : Int) = (0 : Int)))))) /\ (Row.mk [Value.pointer (some (Addr.mk 6 0 none)), Value.int IntKind.i64 (4096 : Int), Value.int IntKind.i64 (65536 : Int), Value.bool
  false] false (Ob.cells false) = Row.mk [Value.pointer (some (Addr.mk 6 0 none)), Value.int IntKind.i64 (4096 : Int), Value.int IntKind.i64 (65536 : Int), Value.bool false]
  false (Ob.cells false) /\ (Row.mk [Value.pointer (some (Addr.mk 7 0 none)), Value.bool false, Value.int IntKind.i64 (0 : Int)] false (Ob.cells false) = Row.mk
  [Value.pointer (some (Addr.mk 7 0 none)), Value.bool false, Value.int IntKind.i64 (0 : Int)] false (Ob.cells false) /\ (OkY (Row.mk y.4 false (Ob.cells true)) /\ (Row.mk
  [Value.slice none 0 0, Value.int IntKind.i64 (0 : Int), Value.int IntKind.i64 (4096 : Int)] false (Ob.cells false) = Row.mk [Value.slice none 0 0, Value.int IntKind.i64 (0
  : Int), Value.int IntKind.i64 (4096 : Int)] false (Ob.cells false) /\ Row.mk [Value.slice none 0 0, Value.int IntKind.i64 (0 : Int), Value.int IntKind.i64 (4096 : Int)]
  false (Ob.cells false) = Row.mk [Value.slice none 0 0, Value.int IntKind.i64 (0 : Int), Value.int IntKind.i64 (4096 : Int)] false (Ob.cells false)))))))))))) /\ (((((0 +
  List.length y.1 * 1 <= List.length (bCells (woZ (Row.mk (bCells y.2) false (Ob.cells true)) y.3)) /\ Plain (List.take (List.length y.1 * 1) (List.drop 0 (bCells (woZ
  (Row.mk (bCells y.2) false (Ob.cells true)) y.3))))) /\ ((0 + List.length y.1 * 1 <= List.length (bCells y.1) /\ Plain (List.take (List.length y.1 * 1) (List.drop 0
  (bCells y.1)))) /\ True)) /\ ((True /\ (True /\ True)) /\ (True /\ (IsB (Row.mk (List.take (List.length y.1 * 1) (List.drop 0 (bCells (woZ (Row.mk (bCells y.2) false
  (Ob.cells true)) y.3)))) true (Ob.cells true)) (List.length y.1) /\ (IsB (Row.mk (List.take (List.length y.1 * 1) (List.drop 0 (bCells y.1))) true (Ob.cells true))
  (List.length y.1) /\ List.length y.1 <= 9223372036854775807)))))) /\ (br (smB (Row.mk (List.take (List.length y.1 * 1) (List.drop 0 (bCells (woZ (Row.mk (bCells y.2) false
  (Ob.cells true)) y.3)))) true (Ob.cells true)) (Row.mk (List.take (List.length y.1 * 1) (List.drop 0 (bCells y.1))) true (Ob.cells true))) (((True /\ (True /\ (True /\
  True)))) /\ ((true = true) /\ ((Eq (α := List Value) (gC enU l) (gC enU g.1)) /\ ((Plain (gC enU l)) /\ ((Eq (α := List Value) (gC enB a) (gC enB g.2)) /\ ((Plain (gC enB
  a)) /\ True)))))) ((true = false) /\ ((Eq (α := List Value) (gC enU l) (gC enU g.1)) /\ ((Plain (gC enU l)) /\ ((Eq (α := List Value) (gC enB a) (gC enB g.2)) /\ ((Plain
  (gC enB a)) /\ True)))))))))))))))))))))))))))))))))))))))))))))))))))))))))))))))))))))))) := by kernel_rfl
theorem eRunsC_ok : EntOk Tryz.prog eRunsC := entC_ok (by
  intro a rows p v news h hp
  split at h <;> simp only [Option.some.injEq, Prod.mk.injEq, reduceCtorEq] at h
  obtain ⟨rfl, rfl, rfl⟩ := h
  exact con_run mixed (n := 1000000) (by kernel_rfl) (by kernel_rfl))
theorem smB_eq (a b : List UInt8) (x y : Bool) (o u : Ob) : smB ⟨bCells a, x, o⟩ ⟨bCells b, y, u⟩ = decide (a = b) := by unfold smB; rw [sealV_eq, dB_mk, dB_mk]
theorem eSmB_ok : EntOk Tryz.prog eSmB := entC_ok (by
  intro a rows p v news h hp
  split at h <;> simp only [Option.some.injEq, Prod.mk.injEq, reduceCtorEq] at h
  obtain ⟨rfl, rfl, rfl⟩ := h
  obtain ⟨⟨x, rfl, rfl⟩, ⟨y, rfl, rfl⟩, h3⟩ := hp
  unfold bRo
  rw [smB_eq]
  simp only [List.append_nil]
  exact Go.Proofs.YtcallecdjebojaaGreat.bk.same_con x y h3)
theorem tCp_ok : ∀ x ∈ tCp, EntOk Tryz.prog x := all_cons eBg_ok (all_cons eRunsC_ok (all_cons eSmB_ok (all_cons eOut_ok all_nil)))
theorem veq_int (n : Nat) (k : IntKind) (a : Int) : veq (n + 1) (.int k a) (.int k a) = true := by simp [veq]
theorem veq_sl (n : Nat) (r k a b : Nat) : veq (n + 1) (.slice (some ⟨r, k, none⟩) a b) (.slice (some ⟨r, k, none⟩) a b) = true := by simp [veq]
theorem uGet (l : List Nat) (i : Nat) (h : i < l.length) : (gC enU l)[i]? = some (.int .u32 (l[i] : Int)) ∧ cellI (gC enU l) i = (l[i] : Int) := by
  have h0 := gC_get0 (en := enU) (k := 1) (fun _ => rfl) l i h (by omega)
  rw [Nat.mul_one] at h0
  have h1 : (gC enU l)[i]? = some (.int .u32 (l[i] : Int)) := by rw [h0]; rfl
  exact ⟨h1, by unfold cellI; rw [h1]⟩
theorem uPl (l : List Nat) : Plain (gC enU l) := gC_plain (fun a v hv => by simp only [enU, List.mem_cons, List.not_mem_nil, or_false] at hv; rw [hv]; rfl) l
def byP (n : Int) : UInt8 := UInt8.ofNat (IntKind.u8.wrap n).toNat
theorem byP_v (n : Int) : Value.int .u8 (IntKind.u8.wrap n) = bVal (byP n) := by
  have h := wru8 n
  have h1 : 0 ≤ IntKind.u8.wrap n ∧ IntKind.u8.wrap n < 256 := by omega
  unfold bVal byP
  rw [u8_toNat_ofNat (by omega), Int.toNat_of_nonneg h1.1]
def fP (f : UInt8) (n : Int) : List UInt8 := [0, 0, 8, 6, f, 0, 0, 0, 0, byP n, byP (ishr .u32 n 8), byP (ishr .u32 n 16), byP (ishr .u32 n 24), 1, 2, 3, 4]
theorem fP_c (f : UInt8) (n : Int) : bCells (fP f n) = [.int .u8 0, .int .u8 0, .int .u8 8, .int .u8 6, .int .u8 (f.toNat : Int), .int .u8 0, .int .u8 0, .int .u8 0, .int .u8 0, .int .u8 (IntKind.u8.wrap n), .int .u8 (IntKind.u8.wrap (ishr .u32 n 8)), .int .u8 (IntKind.u8.wrap (ishr .u32 n 16)), .int .u8 (IntKind.u8.wrap (ishr .u32 n 24)), .int .u8 1, .int .u8 2, .int .u8 3, .int .u8 4] := by
  rw [byP_v, byP_v, byP_v, byP_v]; rfl
theorem pl17 (f a b c d : Int) : Plain [.int .u8 0, .int .u8 0, .int .u8 8, .int .u8 6, .int .u8 f, .int .u8 0, .int .u8 0, .int .u8 0, .int .u8 0, .int .u8 a, .int .u8 b, .int .u8 c, .int .u8 d, .int .u8 1, .int .u8 2, .int .u8 3, .int .u8 4] := by
  intro v hv
  simp only [List.mem_cons, List.not_mem_nil, or_false] at hv
  rcases hv with rfl | rfl | rfl | rfl | rfl | rfl | rfl | rfl | rfl | rfl | rfl | rfl | rfl | rfl | rfl | rfl | rfl <;> rfl
end Go.Proofs.YtcallecdjebojaaGreat.cp
