/- Dates by the document: their helpers. -/
import Derived.Test.YtideeogedleabaaSz9
import Derived.Test.YtideeogedleabaaRows
import Derived.Test.YtideeogedleabaaLdayrs3
set_option maxRecDepth 20000
set_option linter.unusedSimpArgs false
set_option linter.unusedVariables false
namespace Go.Proofs.Ytideeogedleabaa.tk
open Go Go.Ev Go.Sy Go.RowKit Go.Proofs.Ytideeogedleabaa.gl
def dgB (c : UInt8) : Bool := decide (48 ≤ c.toNat) && decide (c.toNat ≤ 57)
def dgA (l : List UInt8) : Bool := l.all dgB
def dgN (l : List UInt8) : Int := if dgA l then (numL l : Nat) else -1
def dgNS (s : ByteArray) : Int := dgN (L s)
structure StRg where
  n : Nat
  i : Nat
def pRg : List Nat := [0, 1, 0, 1, 1]
def slRg (l : List UInt8) (s : StRg) : List (Nat × Value) := [(0, .string (bs l)), (3, .int .i64 (s.n : Nat)), (4, .int .i64 (s.i : Nat))]
def wsRg (l : List UInt8) : List (Gate Unit) := [⟨.exit 0, fun _ => dgA l = true, fun _ => [(3, .int .i64 (numL l : Nat))], fun _ => [], 0⟩, ⟨.ret, fun _ => dgA l = false, fun _ => [(2, .int .i64 (-1))], fun _ => [], 0⟩]
def specRg : Sy.Spec := specOf 0 0 30 (fun l : List UInt8 => l.length ≤ 6) (fun l => slRg l ⟨0, 0⟩) (fun _ => []) wsRg
def mRg := mOf [(64, pRg, specRg)]
def cRd : FuncId → List Value → List Row → Option (Prop × Value × List Row)
  | 65, [.int .i64 y, .int .i64 m], [] => some (0 ≤ y ∧ 0 ≤ m, .int .i64 (lenI y m), [])
  | 64, [.string s], [] => some ((L s).length ≤ 6, .int .i64 (dgNS s), [])
  | _, _, _ => none
noncomputable abbrev ERd : Env := envC Try.prog cRd (fun f => Nat.beq f 65 || Nat.beq f 64)
structure GRd where
  l : List UInt8
  d : Int
  y : Int
  h : Int
  m : Int
  c : Int
def mnI (l : List UInt8) : Int := match fndO (sl l 8 11) with
  | some i => (i : Nat)
  | none => -1
structure StR1 where
  mon : Int
  i : Nat
def pR1 : List Nat := [0, 1, 0, 1, 1, 1, 1, 1]
def slR1 (g : GRd) (s : StR1) : List (Nat × Value) := [(0, .string (bs g.l)), (4, .int .i64 g.d), (5, .int .i64 g.y), (6, .int .i64 g.h), (7, .int .i64 g.m), (8, .int .i64 g.c), (9, .string (bs moL)), (10, .int .i64 s.mon), (11, .int .i64 (s.i : Nat))]
def wsR1 (g : GRd) : List (Gate Unit) := [⟨.exit 0, fun _ => True, fun _ => [(0, .string (bs g.l)), (4, .int .i64 g.d), (5, .int .i64 g.y), (6, .int .i64 g.h), (7, .int .i64 g.m), (8, .int .i64 g.c), (10, .int .i64 (mnI g.l))], fun _ => [], 0⟩]
def specR1 : Sy.Spec := specOf 0 0 180 (fun g : GRd => g.l.length = 29) (fun g => slR1 g ⟨-1, 0⟩) (fun _ => []) wsR1
structure GR2 where
  l : List UInt8
  d : Nat
  y : Nat
  m : Nat
  h : Int
  mi : Int
  c : Int
def pR2 : List Nat := [0, 1, 0, 1, 1, 1, 1, 1, 1, 1, 1]
def slR2 (g : GR2) (y : Nat) : List (Nat × Value) := [(0, .string (bs g.l)), (5, .int .i64 (g.y : Nat)), (6, .int .i64 g.h), (7, .int .i64 g.mi), (8, .int .i64 g.c), (10, .int .i64 (g.m : Nat)), (12, .int .i64 (g.d + befN y 0 : Nat)), (13, .int .i64 (y : Nat))]
def wsR2 (g : GR2) : List (Gate Unit) := [⟨.exit 2, fun _ => True, fun _ => [(0, .string (bs g.l)), (5, .int .i64 (g.y : Nat)), (6, .int .i64 g.h), (7, .int .i64 g.mi), (8, .int .i64 g.c), (10, .int .i64 (g.m : Nat)), (12, .int .i64 (g.d + befN g.y 0 : Nat))], fun _ => [], 0⟩]
def specR2 : Sy.Spec := specOf 0 0 180 (fun g : GR2 => 1970 ≤ g.y ∧ g.y ≤ 3000 ∧ g.d ≤ 100) (fun g => slR2 g 1970) (fun _ => []) wsR2
def pR3 : List Nat := [0, 1, 0, 1, 1, 1, 1, 1, 1, 1, 1, 1]
def slR3 (g : GR2) (m : Nat) : List (Nat × Value) := [(0, .string (bs g.l)), (5, .int .i64 (g.y : Nat)), (6, .int .i64 g.h), (7, .int .i64 g.mi), (8, .int .i64 g.c), (10, .int .i64 (g.m : Nat)), (12, .int .i64 (g.d + befN g.y m : Nat)), (14, .int .i64 (m : Nat))]
def wsR3 (g : GR2) : List (Gate Unit) := [⟨.exit 4, fun _ => True, fun _ => [(0, .string (bs g.l)), (6, .int .i64 g.h), (7, .int .i64 g.mi), (8, .int .i64 g.c), (12, .int .i64 (g.d + befN g.y g.m : Nat))], fun _ => [], 0⟩]
def specR3 : Sy.Spec := specOf 0 0 180 (fun g : GR2 => 1970 ≤ g.y ∧ g.y ≤ 3000 ∧ g.d ≤ 100 ∧ g.m ≤ 12) (fun g => slR3 g 0) (fun _ => []) wsR3
def mRd := mOf [(53, pR1, specR1), (53, pR2, specR2), (53, pR3, specR3)]
structure GRs where
  d : Nat
  c : Nat
  w : List UInt8
  y : Nat
theorem rln_vc (y m : Nat) (v : Int) : mcall E0 noM 60 65 [.int .i64 (y : Nat), .int .i64 (m : Nat)] ⟨mkR (nums 0 []), 0⟩ (retIs 0 (.int .i64 v) []) =
  (br ((↑m : Int) == (3 : Int)) ((v = (30 : Int)) /\ True) (br ((↑m : Int) == (5 : Int)) ((v = (30 : Int)) /\ True) (br ((↑m : Int) == (8 : Int)) ((v = (30 : Int)) /\ True)
  (br ((↑m : Int) == (10 : Int)) ((v = (30 : Int)) /\ True) (br ((↑m : Int) == (1 : Int)) (br (Int.tmod (↑y : Int) (4 : Int) == (0 : Int)) ((v = (29 : Int)) /\ True) ((v =
  (28 : Int)) /\ True)) ((v = (31 : Int)) /\ True)))))) := by kernel_rfl
theorem rg_round (l : List UInt8) (s : StRg) (Inv : StRg → Prop) (m : StRg → Nat) : mev E0 noM 60 64 (0 :: pRg) false (codeOf Try.prog 64 (0 :: pRg)) ⟨mkOv (slRg l s), 30, []⟩ none ⟨mkR [], 0⟩ (roundK 0 0 30 Inv m (slRg l) (fun _ => []) (wsRg l) s) =
  let z1 := (decide ((0 : Int) <= (↑s.2 : Int) /\ (↑s.2 : Int) < (↑(List.length (Array.toList (ByteArray.data (bs l)))) : Int))); let z2 := ((dgA l = false) /\ (((-1 : Int)
  = (-1 : Int)) /\ True)); (br (decide ((↑s.2 : Int) < Int.ofNat (List.length (Array.toList (ByteArray.data (bs l)))))) (br z1 (br (decide (byteAt (bs l) (Int.toNat (↑s.2 :
  Int)) < (48 : Int))) (∃ y : Unit, z2) (br z1 (br (decide (byteAt (bs l) (Int.toNat (↑s.2 : Int)) > (57 : Int))) (∃ y : Unit, z2) (br z1 (∃ j : StRg, ((Inv j) /\ ((m j < m
  s) /\ ((bs l = bs l) /\ (((↑j.1 : Int) = IntKind.wrap IntKind.i64 (IntKind.wrap IntKind.i64 ((↑s.1 : Int) * (10 : Int)) + IntKind.wrap IntKind.i64 (IntKind.wrap IntKind.u8
  (byteAt (bs l) (Int.toNat (↑s.2 : Int)) - (48 : Int))))) /\ (((↑j.2 : Int) = IntKind.wrap IntKind.i64 ((↑s.2 : Int) + (1 : Int))) /\ True)))))) False)) False)) False) (∃ y
  : Unit, ((dgA l = true) /\ (((↑(numL l) : Int) = (↑s.1 : Int)) /\ True)))) := by kernel_rfl
theorem rg_vc (l : List UInt8) (v : Int) : mcall E0 mRg 60 64 [.string (bs l)] ⟨mkR (nums 0 []), 0⟩ (retIs 0 (.int .i64 v) []) =
  (∃ g : List UInt8, ((List.length g <= 6) /\ ((bs g = bs l) /\ (((0 : Int) = (0 : Int)) /\ (((0 : Int) = (0 : Int)) /\ (∀ (side : Bool), (br (side) (∀ (y : Unit), ((dgA g =
  true) → ((v = (↑(numL g) : Int)) /\ True))) (∀ (y : Unit), ((dgA g = false) → ((v = (-1 : Int)) /\ True)))))))))) := by kernel_rfl
theorem r1_round (g : GRd) (s : StR1) (Inv : StR1 → Prop) (m : StR1 → Nat) : mev ERd noM 60 53 (0 :: pR1) false (codeOf Try.prog 53 (0 :: pR1)) ⟨mkOv (slR1 g s), 180, []⟩ none ⟨mkR [], 0⟩ (roundK 0 0 180 Inv m (slR1 g) (fun _ => []) (wsR1 g) s) =
  let z1 := (sub (bs moL) (Int.toNat (IntKind.wrap IntKind.i64 ((3 : Int) * (↑s.2 : Int)))) (Int.toNat (IntKind.wrap IntKind.i64 (IntKind.wrap IntKind.i64 ((3 : Int) * (↑s.2
  : Int)) + (3 : Int))))); let z2 := (decide ((0 : Int) <= IntKind.wrap IntKind.i64 ((3 : Int) * (↑s.2 : Int)) /\ IntKind.wrap IntKind.i64 ((3 : Int) * (↑s.2 : Int)) <=
  IntKind.wrap IntKind.i64 (IntKind.wrap IntKind.i64 ((3 : Int) * (↑s.2 : Int)) + (3 : Int)) /\ IntKind.wrap IntKind.i64 (IntKind.wrap IntKind.i64 ((3 : Int) * (↑s.2 : Int))
  + (3 : Int)) <= (36 : Int))); let z3 := (decide ((0 : Int) <= (8 : Int) /\ (8 : Int) <= (11 : Int) /\ (11 : Int) <= (↑(List.length (Array.toList (ByteArray.data (bs
  g.1)))) : Int))); (br (decide ((↑s.2 : Int) < (12 : Int))) (br z2 (br z3 (br z2 ((Value.string z1 = Value.string z1) /\ (br z3 ((Value.string (sub (bs g.1) 8 11) =
  Value.string (sub (bs g.1) 8 11)) /\ (br (strEq z1 (sub (bs g.1) 8 11)) (∃ j : StR1, ((Inv j) /\ ((m j < m s) /\ ((bs g.1 = bs g.1) /\ ((g.2 = g.2) /\ ((g.3 = g.3) /\
  ((g.4 = g.4) /\ ((g.5 = g.5) /\ ((g.6 = g.6) /\ ((bs moL = bs moL) /\ ((j.1 = (↑s.2 : Int)) /\ (((↑j.2 : Int) = IntKind.wrap IntKind.i64 ((↑s.2 : Int) + (1 : Int))) /\
  True)))))))))))) (∃ j : StR1, ((Inv j) /\ ((m j < m s) /\ ((bs g.1 = bs g.1) /\ ((g.2 = g.2) /\ ((g.3 = g.3) /\ ((g.4 = g.4) /\ ((g.5 = g.5) /\ ((g.6 = g.6) /\ ((bs moL =
  bs moL) /\ ((j.1 = s.1) /\ (((↑j.2 : Int) = IntKind.wrap IntKind.i64 ((↑s.2 : Int) + (1 : Int))) /\ True)))))))))))))) False)) False) False) False) (∃ y : Unit, ((True) /\
  ((bs g.1 = bs g.1) /\ ((g.2 = g.2) /\ ((g.3 = g.3) /\ ((g.4 = g.4) /\ ((g.5 = g.5) /\ ((g.6 = g.6) /\ ((mnI g.1 = s.1) /\ True)))))))))) := by kernel_rfl
theorem r2_round (g : GR2) (y : Nat) (Inv : Nat → Prop) (m : Nat → Nat) : mev ERd noM 60 53 (0 :: pR2) false (codeOf Try.prog 53 (0 :: pR2)) ⟨mkOv (slR2 g y), 180, []⟩ none ⟨mkR [], 0⟩ (roundK 0 0 180 Inv m (slR2 g) (fun _ => []) (wsR2 g) y) =
  (br (decide ((↑y : Int) < (↑g.3 : Int))) (br (Int.tmod (↑y : Int) (4 : Int) == (0 : Int)) (∃ j : Nat, ((Inv j) /\ ((m j < m y) /\ ((bs g.1 = bs g.1) /\ (((↑g.3 : Int) =
  (↑g.3 : Int)) /\ ((g.5 = g.5) /\ ((g.6 = g.6) /\ ((g.7 = g.7) /\ (((↑g.4 : Int) = (↑g.4 : Int)) /\ (((↑(g.2 + befN j 0) : Int) = IntKind.wrap IntKind.i64 (IntKind.wrap
  IntKind.i64 ((↑(g.2 + befN y 0) : Int) + (365 : Int)) + (1 : Int))) /\ (((↑j : Int) = IntKind.wrap IntKind.i64 ((↑y : Int) + (1 : Int))) /\ True))))))))))) (∃ j : Nat,
  ((Inv j) /\ ((m j < m y) /\ ((bs g.1 = bs g.1) /\ (((↑g.3 : Int) = (↑g.3 : Int)) /\ ((g.5 = g.5) /\ ((g.6 = g.6) /\ ((g.7 = g.7) /\ (((↑g.4 : Int) = (↑g.4 : Int)) /\
  (((↑(g.2 + befN j 0) : Int) = IntKind.wrap IntKind.i64 ((↑(g.2 + befN y 0) : Int) + (365 : Int))) /\ (((↑j : Int) = IntKind.wrap IntKind.i64 ((↑y : Int) + (1 : Int))) /\
  True)))))))))))) (∃ y2 : Unit, ((True) /\ ((bs g.1 = bs g.1) /\ (((↑g.3 : Int) = (↑g.3 : Int)) /\ ((g.5 = g.5) /\ ((g.6 = g.6) /\ ((g.7 = g.7) /\ (((↑g.4 : Int) = (↑g.4 :
  Int)) /\ (((↑(g.2 + befN g.3 0) : Int) = (↑(g.2 + befN y 0) : Int)) /\ True)))))))))) := by kernel_rfl
theorem r3_round (g : GR2) (y : Nat) (Inv : Nat → Prop) (m : Nat → Nat) : mev ERd noM 60 53 (0 :: pR3) false (codeOf Try.prog 53 (0 :: pR3)) ⟨mkOv (slR3 g y), 180, []⟩ none ⟨mkR [], 0⟩ (roundK 0 0 180 Inv m (slR3 g) (fun _ => []) (wsR3 g) y) =
  (br (decide ((↑y : Int) < (↑g.4 : Int))) ((((True /\ (True /\ True)) /\ (True /\ ((0 : Int) <= (↑g.3 : Int) /\ (0 : Int) <= (↑y : Int))))) /\ (∃ j : Nat, ((Inv j) /\ ((m j
  < m y) /\ ((bs g.1 = bs g.1) /\ (((↑g.3 : Int) = (↑g.3 : Int)) /\ ((g.5 = g.5) /\ ((g.6 = g.6) /\ ((g.7 = g.7) /\ (((↑g.4 : Int) = (↑g.4 : Int)) /\ (((↑(g.2 + befN g.3 j)
  : Int) = IntKind.wrap IntKind.i64 ((↑(g.2 + befN g.3 y) : Int) + lenI (↑g.3 : Int) (↑y : Int))) /\ (((↑j : Int) = IntKind.wrap IntKind.i64 ((↑y : Int) + (1 : Int))) /\
  True)))))))))))) (∃ y2 : Unit, ((True) /\ ((bs g.1 = bs g.1) /\ ((g.5 = g.5) /\ ((g.6 = g.6) /\ ((g.7 = g.7) /\ (((↑(g.2 + befN g.3 g.4) : Int) = (↑(g.2 + befN g.3 y) :
  Int)) /\ True)))))))) := by kernel_rfl
theorem rd2_vc (l : List UInt8) (v : Int) (b : Bool) : mcall ERd mRd 60 53 [.string (bs l)] ⟨mkR (nums 0 []), 0⟩ (retIs 0 (.tuple #[.int .i64 v, .bool b]) []) =
  let z1 := (↑(List.length (Array.toList (ByteArray.data (bs l)))) : Int); let z2 := (decide ((0 : Int) <= (23 : Int) /\ (23 : Int) <= (25 : Int) /\ (25 : Int) <= z1)); let
  z3 := (decide ((0 : Int) <= (20 : Int) /\ (20 : Int) <= (22 : Int) /\ (22 : Int) <= z1)); let z4 := (Value.string (sub (bs l) 23 25) = Value.string (sub (bs l) 23 25));
  let z5 := (ByteArray.mk #[84, 104, 117, 70, 114, 105, 83, 97, 116, 83, 117, 110, 77, 111, 110, 84, 117, 101, 87, 101, 100]); let z6 := (decide ((0 : Int) <= (17 : Int) /\
  (17 : Int) <= (19 : Int) /\ (19 : Int) <= z1)); let z7 := (Value.string (sub (bs l) 20 22) = Value.string (sub (bs l) 20 22)); let z8 := (decide ((0 : Int) <= (12 : Int)
  /\ (12 : Int) <= (16 : Int) /\ (16 : Int) <= z1)); let z9 := (Value.string (sub (bs l) 17 19) = Value.string (sub (bs l) 17 19)); let z10 := (decide ((0 : Int) <= (5 :
  Int) /\ (5 : Int) <= (7 : Int) /\ (7 : Int) <= z1)); let z11 := (Value.string (sub (bs l) 12 16) = Value.string (sub (bs l) 12 16)); (br (Int.ofNat (List.length
  (Array.toList (ByteArray.data (bs l)))) != (29 : Int)) ((v = (0 : Int)) /\ ((b = false) /\ True)) (br (decide ((0 : Int) <= (3 : Int) /\ (3 : Int) < z1)) (br (byteAt (bs
  l) 3 != (44 : Int)) ((v = (0 : Int)) /\ ((b = false) /\ True)) (br (decide ((0 : Int) <= (4 : Int) /\ (4 : Int) < z1)) (br (byteAt (bs l) 4 != (32 : Int)) ((v = (0 : Int))
  /\ ((b = false) /\ True)) (br (decide ((0 : Int) <= (7 : Int) /\ (7 : Int) < z1)) (br (byteAt (bs l) 7 != (32 : Int)) ((v = (0 : Int)) /\ ((b = false) /\ True)) (br
  (decide ((0 : Int) <= (11 : Int) /\ (11 : Int) < z1)) (br (byteAt (bs l) 11 != (32 : Int)) ((v = (0 : Int)) /\ ((b = false) /\ True)) (br (decide ((0 : Int) <= (16 : Int)
  /\ (16 : Int) < z1)) (br (byteAt (bs l) 16 != (32 : Int)) ((v = (0 : Int)) /\ ((b = false) /\ True)) (br (decide ((0 : Int) <= (19 : Int) /\ (19 : Int) < z1)) (br (byteAt
  (bs l) 19 != (58 : Int)) ((v = (0 : Int)) /\ ((b = false) /\ True)) (br (decide ((0 : Int) <= (22 : Int) /\ (22 : Int) < z1)) (br (byteAt (bs l) 22 != (58 : Int)) ((v = (0
  : Int)) /\ ((b = false) /\ True)) (br (decide ((0 : Int) <= (25 : Int) /\ (25 : Int) <= z1 /\ z1 <= z1)) (br (!strEq (sub (bs l) 25 (Int.toNat z1)) (ByteArray.mk #[32, 71,
  77, 84])) ((v = (0 : Int)) /\ ((b = false) /\ True)) (br z10 ((((True /\ True) /\ (True /\ List.length (L (sub (bs l) 5 7)) <= 6))) /\ (br z8 ((((True /\ True) /\ (True /\
  List.length (L (sub (bs l) 12 16)) <= 6))) /\ (br z6 ((((True /\ True) /\ (True /\ List.length (L (sub (bs l) 17 19)) <= 6))) /\ (br z3 ((((True /\ True) /\ (True /\
  List.length (L (sub (bs l) 20 22)) <= 6))) /\ (br z2 ((((True /\ True) /\ (True /\ List.length (L (sub (bs l) 23 25)) <= 6))) /\ (br z10 ((Value.string (sub (bs l) 5 7) =
  Value.string (sub (bs l) 5 7)) /\ (br z8 (z11 /\ (br z8 (z11 /\ (br z6 (z9 /\ (br z6 (z9 /\ (br z6 (z9 /\ (br z3 (z7 /\ (br z3 (z7 /\ (br z3 (z7 /\ (br z3 (z7 /\ (br z2
  (z4 /\ (br z2 (z4 /\ (br z2 (z4 /\ (br z2 (z4 /\ (br z2 (z4 /\ (∃ g : GRd, ((List.length g.1 = 29) /\ ((bs g.1 = bs l) /\ ((g.2 = dgNS (sub (bs l) 5 7)) /\ ((g.3 = dgNS
  (sub (bs l) 12 16)) /\ ((g.4 = dgNS (sub (bs l) 17 19)) /\ ((g.5 = dgNS (sub (bs l) 20 22)) /\ ((g.6 = dgNS (sub (bs l) 23 25)) /\ ((bs moL = ByteArray.mk #[74, 97, 110,
  70, 101, 98, 77, 97, 114, 65, 112, 114, 77, 97, 121, 74, 117, 110, 74, 117, 108, 65, 117, 103, 83, 101, 112, 79, 99, 116, 78, 111, 118, 68, 101, 99]) /\ (((-1 : Int) = (-1
  : Int)) /\ (((0 : Int) = (0 : Int)) /\ (∀ (y : Unit), ((True) → (br (decide (g.2 < (1 : Int))) ((v = (0 : Int)) /\ ((b = false) /\ True)) (br (decide (g.3 < (1970 : Int)))
  ((v = (0 : Int)) /\ ((b = false) /\ True)) (br (decide (g.3 > (2037 : Int))) ((v = (0 : Int)) /\ ((b = false) /\ True)) (br (decide (mnI g.1 < (0 : Int))) ((v = (0 : Int))
  /\ ((b = false) /\ True)) (br (decide (g.4 < (0 : Int))) ((v = (0 : Int)) /\ ((b = false) /\ True)) (br (decide (g.4 > (23 : Int))) ((v = (0 : Int)) /\ ((b = false) /\
  True)) (br (decide (g.5 < (0 : Int))) ((v = (0 : Int)) /\ ((b = false) /\ True)) (br (decide (g.5 > (59 : Int))) ((v = (0 : Int)) /\ ((b = false) /\ True)) (br (decide
  (g.6 < (0 : Int))) ((v = (0 : Int)) /\ ((b = false) /\ True)) (br (decide (g.6 > (59 : Int))) ((v = (0 : Int)) /\ ((b = false) /\ True)) ((((True /\ (True /\ True)) /\
  (True /\ ((0 : Int) <= g.3 /\ (0 : Int) <= mnI g.1)))) /\ (br (decide (g.2 > lenI g.3 (mnI g.1))) ((v = (0 : Int)) /\ ((b = false) /\ True)) (∃ g2 : GR2, ((1970 <= g2.3 /\
  g2.3 <= 3000 /\ g2.2 <= 100) /\ ((bs g2.1 = bs g.1) /\ (((↑g2.3 : Int) = g.3) /\ ((g2.5 = g.4) /\ ((g2.6 = g.5) /\ ((g2.7 = g.6) /\ (((↑g2.4 : Int) = mnI g.1) /\ (((↑(g2.2
  + 0) : Int) = IntKind.wrap IntKind.i64 (g.2 - (1 : Int))) /\ (((1970 : Int) = (1970 : Int)) /\ (∀ (y2 : Unit), ((True) → (∃ g3 : GR2, ((1970 <= g3.3 /\ g3.3 <= 3000 /\
  g3.2 <= 100 /\ g3.4 <= 12) /\ ((bs g3.1 = bs g2.1) /\ (((↑g3.3 : Int) = (↑g2.3 : Int)) /\ ((g3.5 = g2.5) /\ ((g3.6 = g2.6) /\ ((g3.7 = g2.7) /\ (((↑g3.4 : Int) = (↑g2.4 :
  Int)) /\ (((↑(g3.2 + befN g3.3 0) : Int) = (↑(g2.2 + befN g2.3 0) : Int)) /\ (((0 : Int) = (0 : Int)) /\ (∀ (y3 : Unit), ((True) → (br (decide ((0 : Int) <= (↑0 : Int) /\
  (↑0 : Int) <= (3 : Int) /\ (3 : Int) <= (↑(List.length (Array.toList (ByteArray.data (bs g3.1)))) : Int))) (br (decide ((0 : Int) <= IntKind.wrap IntKind.i64 ((3 : Int) *
  Int.tmod (↑(g3.2 + befN g3.3 g3.4) : Int) (7 : Int)) /\ IntKind.wrap IntKind.i64 ((3 : Int) * Int.tmod (↑(g3.2 + befN g3.3 g3.4) : Int) (7 : Int)) <= IntKind.wrap
  IntKind.i64 (IntKind.wrap IntKind.i64 ((3 : Int) * Int.tmod (↑(g3.2 + befN g3.3 g3.4) : Int) (7 : Int)) + (3 : Int)) /\ IntKind.wrap IntKind.i64 (IntKind.wrap IntKind.i64
  ((3 : Int) * Int.tmod (↑(g3.2 + befN g3.3 g3.4) : Int) (7 : Int)) + (3 : Int)) <= (21 : Int))) (br (decide ((0 : Int) <= (↑0 : Int) /\ (↑0 : Int) <= (3 : Int) /\ (3 : Int)
  <= (↑(List.length (Array.toList (ByteArray.data (bs g3.1)))) : Int))) ((Value.string (sub (bs g3.1) 0 3) = Value.string (sub (bs g3.1) 0 3)) /\ (br (decide ((0 : Int) <=
  IntKind.wrap IntKind.i64 ((3 : Int) * Int.tmod (↑(g3.2 + befN g3.3 g3.4) : Int) (7 : Int)) /\ IntKind.wrap IntKind.i64 ((3 : Int) * Int.tmod (↑(g3.2 + befN g3.3 g3.4) :
  Int) (7 : Int)) <= IntKind.wrap IntKind.i64 (IntKind.wrap IntKind.i64 ((3 : Int) * Int.tmod (↑(g3.2 + befN g3.3 g3.4) : Int) (7 : Int)) + (3 : Int)) /\ IntKind.wrap
  IntKind.i64 (IntKind.wrap IntKind.i64 ((3 : Int) * Int.tmod (↑(g3.2 + befN g3.3 g3.4) : Int) (7 : Int)) + (3 : Int)) <= (21 : Int))) ((Value.string (sub z5 (Int.toNat
  (IntKind.wrap IntKind.i64 ((3 : Int) * Int.tmod (↑(g3.2 + befN g3.3 g3.4) : Int) (7 : Int)))) (Int.toNat (IntKind.wrap IntKind.i64 (IntKind.wrap IntKind.i64 ((3 : Int) *
  Int.tmod (↑(g3.2 + befN g3.3 g3.4) : Int) (7 : Int)) + (3 : Int))))) = Value.string (sub z5 (Int.toNat (IntKind.wrap IntKind.i64 ((3 : Int) * Int.tmod (↑(g3.2 + befN g3.3
  g3.4) : Int) (7 : Int)))) (Int.toNat (IntKind.wrap IntKind.i64 (IntKind.wrap IntKind.i64 ((3 : Int) * Int.tmod (↑(g3.2 + befN g3.3 g3.4) : Int) (7 : Int)) + (3 : Int))))))
  /\ (br (!strEq (sub (bs g3.1) 0 3) (sub z5 (Int.toNat (IntKind.wrap IntKind.i64 ((3 : Int) * Int.tmod (↑(g3.2 + befN g3.3 g3.4) : Int) (7 : Int)))) (Int.toNat
  (IntKind.wrap IntKind.i64 (IntKind.wrap IntKind.i64 ((3 : Int) * Int.tmod (↑(g3.2 + befN g3.3 g3.4) : Int) (7 : Int)) + (3 : Int)))))) ((v = (0 : Int)) /\ ((b = false) /\
  True)) ((v = IntKind.wrap IntKind.i64 (IntKind.wrap IntKind.i64 (IntKind.wrap IntKind.i64 (IntKind.wrap IntKind.i64 (IntKind.wrap IntKind.i64 (IntKind.wrap IntKind.i64
  ((↑(g3.2 + befN g3.3 g3.4) : Int) * (24 : Int)) + g3.5) * (60 : Int)) + g3.6) * (60 : Int)) + g3.7)) /\ ((b = true) /\ True)))) False)) False) False)
  False))))))))))))))))))))))))))))))))))))))))))))))))))) False)) False)) False)) False)) False)) False)) False)) False)) False)) False)) False)) False)) False)) False))
  False)) False)) False)) False)) False)) False)) False)) False)) False)) False)) False)) False)) False)) False)) := by kernel_rfl
theorem rln_con (y m : Nat) : Con Try.prog 65 [.int .i64 (y : Nat), .int .i64 (m : Nat)] [] (.int .i64 (lenN y m : Nat)) [] := by
  refine con_vc (E := E0) mixed (calls_envN _) (lok_envN _) (M := noM) lm_none (rln_vc y m _) ?_
  simp only [ofNat_eq, toNat_cast, Nat.zero_add, Nat.add_zero, Nat.mul_one, List.drop_zero, bCells_len, bCells_drop, bCells_take, bCells_app, bCells_one, bCells_plain, List.length_replicate, List.length_append, List.length_take, List.length_drop, List.take_length, and_true, true_and, and_self, decide_true, List.length_nil, List.length_cons, Nat.sub_zero, dB_mk, dB_ro, List.take_zero]
  have q : (y : Int).tmod 4 = ((y % 4 : Nat) : Int) := by rw [Int.tmod_eq_emod_of_nonneg (by omega)]; omega
  rw [q]
  unfold lenN
  refine br_intro (fun b => ?_) (fun b => br_intro (fun c => ?_) (fun c => br_intro (fun d => ?_) (fun d => br_intro (fun e => ?_) (fun e => br_intro (fun a => br_intro (fun b2 => ?_) (fun b2 => ?_)) (fun a => ?_)))))
  · have b : (m : Int) = 3 := by simpa using b
    rw [if_neg (by omega), if_pos (by omega)]; rfl
  · have c : (m : Int) = 5 := by simpa using c
    rw [if_neg (by omega), if_pos (by omega)]; rfl
  · have d : (m : Int) = 8 := by simpa using d
    rw [if_neg (by omega), if_pos (by omega)]; rfl
  · have e : (m : Int) = 10 := by simpa using e
    rw [if_neg (by omega), if_pos (by omega)]; rfl
  · have a : (m : Int) = 1 := by simpa using a
    have b2 : ((y % 4 : Nat) : Int) = 0 := by simpa using b2
    rw [if_pos (by omega), if_pos (by omega)]; rfl
  · have a : (m : Int) = 1 := by simpa using a
    have b2 : ¬ ((y % 4 : Nat) : Int) = 0 := by simpa using b2
    rw [if_pos (by omega), if_neg (by omega)]; rfl
  · have a : ¬ (m : Int) = 1 := by simpa using a
    have b : ¬ (m : Int) = 3 := by simpa using b
    have c : ¬ (m : Int) = 5 := by simpa using c
    have d : ¬ (m : Int) = 8 := by simpa using d
    have e : ¬ (m : Int) = 10 := by simpa using e
    rw [if_neg (by omega), if_neg (by omega)]; rfl
theorem Rg_piece : PieceOk E0 0 (64, pRg, specRg) := by
  refine piece_loop mixed (calls_envN _) (lok_envN _) lm_none (n := 60) (by kernel_rfl) (fun _ => (⟨0, 0⟩ : StRg)) (fun l s => s.i ≤ l.length ∧ s.n = numL (l.take s.i) ∧ s.n ≤ 1000 ^ s.i ∧ dgA (l.take s.i) = true) (fun l s => l.length - s.i) (sl := slRg) (rl := fun _ _ => []) (fun l hl => ⟨Nat.zero_le _, by simp [numL], by simp, by simp [dgA]⟩) (fun l s hl hi => ?_)
  refine (rg_round l s _ _).mpr ?_
  obtain ⟨n, i⟩ := s
  obtain ⟨h1, h2, h3, h4⟩ := hi
  simp only at h1 h2 h3 h4
  simp only [ofNat_eq, toNat_cast, Nat.zero_add, Nat.add_zero, Nat.mul_one, List.drop_zero, bCells_len, bCells_drop, bCells_take, bCells_app, bCells_one, bCells_plain, List.length_replicate, List.length_append, List.length_take, List.length_drop, List.take_length, and_true, true_and, and_self, decide_true, List.length_nil, List.length_cons, Nat.sub_zero, dB_mk, dB_ro, List.take_zero, bs_dd]
  refine br_if (fun h => br_dec (by omega) ?_) (fun h => ?_)
  · have hi : i < l.length := by omega
    rw [byteAt_bs hi]
    have w := i64_succ (show i < 9223372036854775807 by omega)
    have ht : l.take (i + 1) = l.take i ++ [l[i]] := List.take_succ_eq_append_getElem hi
    have hin := List.getElem_mem hi
    generalize l[i] = c at *
    have hno : dgB c = false → dgA l = false := fun h => by unfold dgA; rw [List.all_eq_false]; exact ⟨c, hin, by simp [h]⟩
    refine br_if (fun k => ⟨(), hno (by unfold dgB; simp; omega)⟩) (fun k => br_dec (by omega) (br_if (fun k2 => ⟨(), hno (by unfold dgB; simp; omega)⟩) (fun k2 => br_dec (by omega) ?_)))
    have hd : IntKind.i64.wrap (IntKind.u8.wrap ((c.toNat : Int) - 48)) = ((dv c : Nat) : Int) := by
      rw [wru8, wr64_id (by unfold I64; omega)]; unfold dv; omega
    have hdv : dv c ≤ 255 := by unfold dv; omega
    have hp : 1 ≤ 1000 ^ i := Nat.one_le_pow _ _ (by omega)
    have hp5 : 1000 ^ i ≤ 1000 ^ 5 := Nat.pow_le_pow_right (by omega) (by omega)
    have hp5' : (1000 : Nat) ^ 5 = 1000000000000000 := rfl
    rw [hd, w, wr64_id (n := (n : Int) * 10) (by unfold I64; omega), wr64_id (by unfold I64; omega)]
    refine ⟨⟨n * 10 + dv c, i + 1⟩, ⟨by simp only; omega, ?_, ?_, ?_⟩, by simp only; omega, by simp only; omega, rfl⟩
    · simp only; rw [ht]; unfold numL at h2 ⊢; rw [List.foldl_append, ← h2]; rfl
    · simp only; rw [Nat.pow_succ]; omega
    · simp only; rw [ht]; unfold dgA at h4 ⊢; rw [List.all_append, h4]; simp [dgB]; omega
  · rw [List.take_of_length_le (by omega)] at h2 h4
    exact ⟨(), h4, by rw [h2]⟩
theorem rg_con (l : List UInt8) (hl : l.length ≤ 6) : Con Try.prog 64 [.string (bs l)] [] (.int .i64 (dgN l)) [] := by
  refine con_vc (E := E0) mixed (calls_envN _) (lok_envN _) (M := mRg) (lm_one Rg_piece) (rg_vc l _) ?_
  simp only [ofNat_eq, toNat_cast, Nat.zero_add, Nat.add_zero, Nat.mul_one, List.drop_zero, bCells_len, bCells_drop, bCells_take, bCells_app, bCells_one, bCells_plain, List.length_replicate, List.length_append, List.length_take, List.length_drop, List.take_length, and_true, true_and, and_self, decide_true, List.length_nil, List.length_cons, Nat.sub_zero, dB_mk, dB_ro, List.take_zero, bs_dd]
  exact ⟨l, hl, rfl, br_side (fun _ h => by unfold dgN; rw [if_pos h]) (fun _ h => by unfold dgN; rw [if_neg (by simp [h])])⟩
theorem cRd_ok : ∀ f a rows p v news, cRd f a rows = some (p, v, news) → p → Con Try.prog f a rows v (rows ++ news) := by
  intro f a rows p v news h hp
  unfold cRd at h
  split at h <;> simp only [Option.some.injEq, Prod.mk.injEq, reduceCtorEq] at h <;> obtain ⟨rfl, rfl, rfl⟩ := h
  · rename_i y m
    have := rln_con y.toNat m.toNat
    rw [Int.toNat_of_nonneg hp.1, Int.toNat_of_nonneg hp.2] at this
    exact this
  · exact rg_con (L _) hp
theorem R1_piece : PieceOk ERd 0 (53, pR1, specR1) := by
  refine piece_loop mixed (calls_envC cRd_ok) (lok_envC _ _ _) lm_none (n := 60) (by kernel_rfl) (fun _ => (⟨-1, 0⟩ : StR1)) (fun g s => s.i ≤ 12 ∧ ((s.mon = -1 ∧ ∀ j < s.i, nm3 moL j ≠ sl g.l 8 11) ∨ ∃ m : Nat, s.mon = (m : Nat) ∧ m < 12 ∧ nm3 moL m = sl g.l 8 11)) (fun g s => 12 - s.i) (sl := slR1) (rl := fun _ _ => []) (fun g hg => ⟨Nat.zero_le _, Or.inl ⟨rfl, fun j hj => by simp at hj⟩⟩) (fun g s hg hi => ?_)
  refine (r1_round g s _ _).mpr ?_
  obtain ⟨mon, i⟩ := s
  obtain ⟨h1, h2⟩ := hi
  simp only at h1 h2 hg
  simp only [ofNat_eq, toNat_cast, Nat.zero_add, Nat.add_zero, Nat.mul_one, List.drop_zero, bCells_len, bCells_drop, bCells_take, bCells_app, bCells_one, bCells_plain, List.length_replicate, List.length_append, List.length_take, List.length_drop, List.take_length, and_true, true_and, and_self, decide_true, List.length_nil, List.length_cons, Nat.sub_zero, dB_mk, dB_ro, List.take_zero, bs_dd]
  have w := i64_succ (show i < 9223372036854775807 by omega)
  refine br_if (fun h => ?_) (fun h => ⟨(), ?_⟩)
  · rw [wr64_id (n := 3 * (i : Int)) (by unfold I64; omega), wr64_id (n := 3 * (i : Int) + 3) (by unfold I64; omega), w]
    rw [sub_nm moL i, sub_sl, strEq_bs]
    refine br_dec (by omega) (br_dec (by omega) (br_dec (by omega) (br_dec (by omega) (br_if (fun k => ?_) (fun k => ?_)))))
    · exact ⟨⟨(i : Nat), i + 1⟩, ⟨by simp only; omega, Or.inr ⟨i, rfl, by omega, k⟩⟩, by simp only; omega, rfl, rfl⟩
    · refine ⟨⟨mon, i + 1⟩, ⟨by simp only; omega, ?_⟩, by simp only; omega, rfl, rfl⟩
      rcases h2 with ⟨h2, h3⟩ | h2
      · refine Or.inl ⟨h2, fun j hj => ?_⟩
        by_cases e : j = i
        · subst e; exact k
        · exact h3 j (by simp only at hj; omega)
      · exact Or.inr h2
  · unfold mnI
    rcases h2 with ⟨h2, h3⟩ | ⟨m, h2, h3, h4⟩
    · rw [fnd_none (fun j hj => h3 j (by omega))]; exact h2.symm
    · rw [fnd_first h3 h4]; exact h2.symm
theorem R2_piece : PieceOk ERd 0 (53, pR2, specR2) := by
  refine piece_loop mixed (calls_envC cRd_ok) (lok_envC _ _ _) lm_none (n := 60) (by kernel_rfl) (fun _ => (1970 : Nat)) (fun g y => 1970 ≤ y ∧ y ≤ g.y) (fun g y => g.y - y) (sl := slR2) (rl := fun _ _ => []) (fun g hg => ⟨Nat.le_refl _, hg.1⟩) (fun g y hg hi => ?_)
  refine (r2_round g y _ _).mpr ?_
  obtain ⟨h1, h2⟩ := hi
  simp only [ofNat_eq, toNat_cast, Nat.zero_add, Nat.add_zero, Nat.mul_one, List.drop_zero, bCells_len, bCells_drop, bCells_take, bCells_app, bCells_one, bCells_plain, List.length_replicate, List.length_append, List.length_take, List.length_drop, List.take_length, and_true, true_and, and_self, decide_true, List.length_nil, List.length_cons, Nat.sub_zero, dB_mk, dB_ro, List.take_zero]
  obtain ⟨g1, g2, g3⟩ := hg
  have w := i64_succ (show y < 9223372036854775807 by omega)
  have q : (y : Int).tmod 4 = ((y % 4 : Nat) : Int) := by rw [Int.tmod_eq_emod_of_nonneg (by omega)]; omega
  have hb : befN y 0 ≤ 1000000 := by unfold befN; simp only [cumN]; omega
  have hn : befN (y + 1) 0 = befN y 0 + 365 + (if y % 4 = 0 then 1 else 0) := by unfold befN; simp only [cumN]; split <;> omega
  rw [w, q, wr64_id (n := ((g.d + befN y 0 : Nat) : Int) + 365) (by unfold I64; omega), wr64_id (n := ((g.d + befN y 0 : Nat) : Int) + 365 + 1) (by unfold I64; omega)]
  refine br_if (fun h => br_intro (fun k => ?_) (fun k => ?_)) (fun h => ⟨(), by rw [show y = g.y by omega]⟩)
  · have k : ((y % 4 : Nat) : Int) = 0 := by simpa using k
    rw [if_pos (by omega)] at hn
    exact ⟨y + 1, ⟨by omega, by omega⟩, by omega, by omega, rfl⟩
  · have k : ¬ ((y % 4 : Nat) : Int) = 0 := by simpa using k
    rw [if_neg (by omega)] at hn
    exact ⟨y + 1, ⟨by omega, by omega⟩, by omega, by omega, rfl⟩
theorem R3_piece : PieceOk ERd 0 (53, pR3, specR3) := by
  refine piece_loop mixed (calls_envC cRd_ok) (lok_envC _ _ _) lm_none (n := 60) (by kernel_rfl) (fun _ => (0 : Nat)) (fun g m => m ≤ g.m) (fun g m => g.m - m) (sl := slR3) (rl := fun _ _ => []) (fun g hg => Nat.zero_le _) (fun g m hg hi => ?_)
  refine (r3_round g m _ _).mpr ?_
  simp only [ofNat_eq, toNat_cast, Nat.zero_add, Nat.add_zero, Nat.mul_one, List.drop_zero, bCells_len, bCells_drop, bCells_take, bCells_app, bCells_one, bCells_plain, List.length_replicate, List.length_append, List.length_take, List.length_drop, List.take_length, and_true, true_and, and_self, decide_true, List.length_nil, List.length_cons, Nat.sub_zero, dB_mk, dB_ro, List.take_zero]
  obtain ⟨g1, g2, g3, g4⟩ := hg
  have w := i64_succ (show m < 9223372036854775807 by omega)
  have hc := cum_le g.y m (by omega)
  have hb : befN g.y m ≤ 1000000 := by unfold befN; omega
  have hl := len_le g.y m
  have hs := bef_succ g.y m
  rw [w, lenI_nat, wr64_id (by unfold I64; omega)]
  exact br_if (fun h => ⟨⟨by omega, by omega⟩, m + 1, by omega, by omega, by omega, rfl⟩) (fun h => ⟨(), by rw [show m = g.m by omega]⟩)
theorem dg_ok (c : UInt8) : okB 48 c = dgB c := by unfold okB dgB; simp
theorem fmd_eq (l : List UInt8) (h : l.length = 29) : fmd l = true ↔ (l.getD 3 0 = 44 ∧ l.getD 4 0 = 32 ∧ l.getD 7 0 = 32 ∧ l.getD 11 0 = 32 ∧ l.getD 16 0 = 32 ∧ l.getD 19 0 = 58 ∧ l.getD 22 0 = 58 ∧ sl l 25 29 = [32, 71, 77, 84] ∧
    dgA (sl l 5 7) = true ∧ dgA (sl l 12 16) = true ∧ dgA (sl l 17 19) = true ∧ dgA (sl l 20 22) = true ∧ dgA (sl l 23 25) = true) := by
  match l, h with
  | [c0, c1, c2, c3, c4, c5, c6, c7, c8, c9, c10, c11, c12, c13, c14, c15, c16, c17, c18, c19, c20, c21, c22, c23, c24, c25, c26, c27, c28], _ =>
  rw [fmd_iff]
  have lit : ∀ (f c : UInt8), f ≠ 95 → f ≠ 48 → (okB f c = true ↔ c = f) := fun f c a b => by unfold okB; simp [a, b]
  have dig : ∀ c : UInt8, okB 48 c = true ↔ dgB c = true := fun c => by rw [dg_ok]
  simp only [sl, List.drop, List.take, Nat.reduceSub, dgA, List.all_cons, List.all_nil, Bool.and_true, Bool.and_eq_true, List.getD_cons_succ, List.getD_cons_zero, List.cons.injEq, and_true]
  constructor
  · rintro ⟨_, h⟩
    have g := fun j hj => h j hj
    exact ⟨(lit 44 c3 (by decide) (by decide)).1 (g 3 (by omega)), (lit 32 c4 (by decide) (by decide)).1 (g 4 (by omega)), (lit 32 c7 (by decide) (by decide)).1 (g 7 (by omega)), (lit 32 c11 (by decide) (by decide)).1 (g 11 (by omega)), (lit 32 c16 (by decide) (by decide)).1 (g 16 (by omega)), (lit 58 c19 (by decide) (by decide)).1 (g 19 (by omega)), (lit 58 c22 (by decide) (by decide)).1 (g 22 (by omega)),
      ⟨(lit 32 c25 (by decide) (by decide)).1 (g 25 (by omega)), (lit 71 c26 (by decide) (by decide)).1 (g 26 (by omega)), (lit 77 c27 (by decide) (by decide)).1 (g 27 (by omega)), (lit 84 c28 (by decide) (by decide)).1 (g 28 (by omega))⟩,
      ⟨(dig c5).1 (g 5 (by omega)), (dig c6).1 (g 6 (by omega))⟩, ⟨(dig c12).1 (g 12 (by omega)), (dig c13).1 (g 13 (by omega)), (dig c14).1 (g 14 (by omega)), (dig c15).1 (g 15 (by omega))⟩, ⟨(dig c17).1 (g 17 (by omega)), (dig c18).1 (g 18 (by omega))⟩, ⟨(dig c20).1 (g 20 (by omega)), (dig c21).1 (g 21 (by omega))⟩, ⟨(dig c23).1 (g 23 (by omega)), (dig c24).1 (g 24 (by omega))⟩⟩
  · rintro ⟨rfl, rfl, rfl, rfl, rfl, rfl, rfl, ⟨rfl, rfl, rfl, rfl⟩, ⟨h5, h6⟩, ⟨h12, h13, h14, h15⟩, ⟨h17, h18⟩, ⟨h20, h21⟩, ⟨h23, h24⟩⟩
    exact (fmd_iff _).1 (fmd_of _ _ _ _ _ _ _ _ _ _ _ _ _ _ _ _ _ _ ((dig _).2 h5) ((dig _).2 h6) ((dig _).2 h12) ((dig _).2 h13) ((dig _).2 h14) ((dig _).2 h15) ((dig _).2 h17) ((dig _).2 h18) ((dig _).2 h20) ((dig _).2 h21) ((dig _).2 h23) ((dig _).2 h24))
theorem rdQ_none (l : List UInt8) (m : Nat) (h : numL (sl l 12 16) < 1970 ∨ 2037 < numL (sl l 12 16) ∨ numL (sl l 5 7) < 1 ∨ lenN (numL (sl l 12 16)) m < numL (sl l 5 7) ∨ 23 < numL (sl l 17 19) ∨ 59 < numL (sl l 20 22) ∨ 59 < numL (sl l 23 25)) : rdQ l m = none := by
  unfold rdQ
  split
  · rfl
  split
  · rfl
  split
  · rfl
  exfalso; omega
theorem dgN_of {l : List UInt8} (h : dgA l = true) : dgN l = (numL l : Nat) := by unfold dgN; rw [if_pos h]
theorem dgN_ge {l : List UInt8} (h : 0 ≤ dgN l) : dgA l = true ∧ dgN l = (numL l : Nat) := by
  unfold dgN at h ⊢
  by_cases e : dgA l = true
  · rw [if_pos e]; exact ⟨e, rfl⟩
  · rw [if_neg e] at h; omega
theorem dgNS_bs (l : List UInt8) : dgNS (bs l) = dgN l := Eq.trans rfl rfl
theorem byteAt_g (l : List UInt8) (i : Nat) (h : i < l.length) : byteAt (bs l) i = ((l.getD i 0).toNat : Int) := by
  rw [byteAt_bs h, List.getD_eq_getElem?_getD, List.getElem?_eq_getElem h]; rfl
theorem rrd_con (l : List UInt8) (hl : l.length ≤ maxLen) : Con Try.prog 53 [.string (bs l)] [] (.tuple #[.int .i64 ((rdL l).getD 0 : Nat), .bool (rdL l).isSome]) [] := by
  refine con_vc (E := ERd) mixed (calls_envC cRd_ok) (lok_envC _ _ _) (M := mRd) (lm_three R1_piece R2_piece R3_piece) (rd2_vc l _ _) ?_
  have hm : maxLen = 9223372036854775807 := by unfold maxLen; rfl
  have hnone : rdL l = none → ((((rdL l).getD 0 : Nat) : Int) = 0 ∧ (rdL l).isSome = false) := fun h => by rw [h]; exact ⟨rfl, rfl⟩
  have hnf : ¬ fmd l = true → rdL l = none := fun h => by unfold rdL; rw [if_neg h]
  simp only [ofNat_eq, toNat_cast, Nat.zero_add, Nat.add_zero, Nat.mul_one, List.drop_zero, bCells_len, bCells_drop, bCells_take, bCells_app, bCells_one, bCells_plain, List.length_replicate, List.length_append, List.length_take, List.length_drop, List.take_length, and_true, true_and, and_self, decide_true, List.length_nil, List.length_cons, Nat.sub_zero, dB_mk, dB_ro, List.take_zero, bs_dd]
  refine br_intro (fun h => hnone (hnf (fun hf => ?_))) (fun h => ?_)
  · have := ((fmd_iff l).1 hf).1; rw [this] at h; simp at h
  have h29 : l.length = 29 := by
    have : (l.length : Int) = 29 := by simpa using h
    omega
  have hq := fmd_eq l h29
  have s1 := sl_len l 12 16
  have s3 := sl_len l 5 7
  have s4 := sl_len l 17 19
  have s5 := sl_len l 20 22
  have s6 := sl_len l 23 25
  simp only [byteAt_g l 3 (by omega), byteAt_g l 4 (by omega), byteAt_g l 7 (by omega), byteAt_g l 11 (by omega), byteAt_g l 16 (by omega), byteAt_g l 19 (by omega), byteAt_g l 22 (by omega), sub_sl, dgNS_bs, L_bsd, h29, wkB, moB_bs]
  simp (disch := omega) only [brT]
  have ne : ∀ (c : UInt8) (k : Nat), k < 256 → ((c.toNat : Int) != (k : Int)) = true → c = UInt8.ofNat k → False := fun c k hk h e => by
    rw [(u8_nat hk).2 e] at h; simp at h
  have eq : ∀ (c : UInt8) (k : Nat), k < 256 → ((c.toNat : Int) != (k : Int)) = false → c = UInt8.ofNat k := fun c k hk h => (u8_nat hk).1 (by simpa using h)
  have F : (∀ (d y h mi c m : Nat), dgN (sl l 5 7) = (d : Nat) → dgN (sl l 12 16) = (y : Nat) → dgN (sl l 17 19) = (h : Nat) → dgN (sl l 20 22) = (mi : Nat) → dgN (sl l 23 25) = (c : Nat) → mnI l = (m : Nat) → (y < 1970 ∨ 2037 < y ∨ d < 1 ∨ lenN y m < d ∨ 23 < h ∨ 59 < mi ∨ 59 < c)) → ((((rdL l).getD 0 : Nat) : Int) = 0 ∧ (rdL l).isSome = false) := fun hc => hnone (by
    by_cases hf : fmd l = true
    · obtain ⟨_, _, _, _, _, _, _, _, a1, a2, a3, a4, a5⟩ := hq.1 hf
      unfold rdL; rw [if_pos hf]
      cases hfn : fndO (sl l 8 11) with
      | none => rfl
      | some m =>
        have hmn : mnI l = (m : Nat) := by unfold mnI; rw [hfn]
        have := hc _ _ _ _ _ m (dgN_of a1) (dgN_of a2) (dgN_of a3) (dgN_of a4) (dgN_of a5) hmn
        rw [Option.bind_some]; exact rdQ_none l m (by omega)
    · exact hnf hf)
  refine br_intro (fun h => hnone (hnf (fun hf => ne _ 44 (by omega) h ((hq.1 hf).1)))) (fun h3 => br_intro (fun h => hnone (hnf (fun hf => ne _ 32 (by omega) h ((hq.1 hf).2.1)))) (fun h4 => br_intro (fun h => hnone (hnf (fun hf => ne _ 32 (by omega) h ((hq.1 hf).2.2.1)))) (fun h7 => br_intro (fun h => hnone (hnf (fun hf => ne _ 32 (by omega) h ((hq.1 hf).2.2.2.1)))) (fun h11 => br_intro (fun h => hnone (hnf (fun hf => ne _ 32 (by omega) h ((hq.1 hf).2.2.2.2.1)))) (fun h16 => br_intro (fun h => hnone (hnf (fun hf => ne _ 58 (by omega) h ((hq.1 hf).2.2.2.2.2.1)))) (fun h19 => br_intro (fun h => hnone (hnf (fun hf => ne _ 58 (by omega) h ((hq.1 hf).2.2.2.2.2.2.1)))) (fun h22 => ?_)))))))
  refine br_intro (fun h => hnone (hnf (fun hf => ?_))) (fun h25 => ?_)
  · have e := (hq.1 hf).2.2.2.2.2.2.2.1
    rw [e, show (⟨#[32, 71, 77, 84]⟩ : ByteArray) = bs [32, 71, 77, 84] from rfl, strEq_bs] at h; simp at h
  have h25 : sl l 25 29 = [32, 71, 77, 84] := by
    rw [show (⟨#[32, 71, 77, 84]⟩ : ByteArray) = bs [32, 71, 77, 84] from rfl, strEq_bs] at h25; simpa using h25
  refine ⟨by omega, by omega, by omega, by omega, by omega, ⟨l, dgN (sl l 5 7), dgN (sl l 12 16), dgN (sl l 17 19), dgN (sl l 20 22), dgN (sl l 23 25)⟩, h29, rfl, rfl, rfl, rfl, rfl, rfl, trivial, fun _ _ => ?_⟩
  simp only
  refine br_if (fun k => F (fun d y h mi c m e1 e2 e3 e4 e5 e6 => by omega)) (fun k1 => br_if (fun k => F (fun d y h mi c m e1 e2 e3 e4 e5 e6 => by omega)) (fun k2 => br_if (fun k => F (fun d y h mi c m e1 e2 e3 e4 e5 e6 => by omega)) (fun k3 => br_if (fun k => F (fun d y h mi c m e1 e2 e3 e4 e5 e6 => by omega)) (fun k4 => br_if (fun k => F (fun d y h mi c m e1 e2 e3 e4 e5 e6 => by omega)) (fun k5 => br_if (fun k => F (fun d y h mi c m e1 e2 e3 e4 e5 e6 => by omega)) (fun k6 => br_if (fun k => F (fun d y h mi c m e1 e2 e3 e4 e5 e6 => by omega)) (fun k7 => br_if (fun k => F (fun d y h mi c m e1 e2 e3 e4 e5 e6 => by omega)) (fun k8 => br_if (fun k => F (fun d y h mi c m e1 e2 e3 e4 e5 e6 => by omega)) (fun k9 => br_if (fun k => F (fun d y h mi c m e1 e2 e3 e4 e5 e6 => by omega)) (fun k10 => ⟨⟨by omega, by omega⟩, br_if (fun k => F (fun d y h mi c m e1 e2 e3 e4 e5 e6 => by rw [e2, e6, lenI_nat] at k; omega)) (fun k11 => ?_)⟩))))))))))
  obtain ⟨a1, b1⟩ := dgN_ge (show 0 ≤ dgN (sl l 5 7) by omega)
  obtain ⟨a2, b2⟩ := dgN_ge (show 0 ≤ dgN (sl l 12 16) by omega)
  obtain ⟨a3, b3⟩ := dgN_ge (show 0 ≤ dgN (sl l 17 19) by omega)
  obtain ⟨a4, b4⟩ := dgN_ge (show 0 ≤ dgN (sl l 20 22) by omega)
  obtain ⟨a5, b5⟩ := dgN_ge (show 0 ≤ dgN (sl l 23 25) by omega)
  obtain ⟨m, hfn⟩ : ∃ m, fndO (sl l 8 11) = some m := by
    cases hfn : fndO (sl l 8 11) with
    | none => unfold mnI at k4; rw [hfn] at k4; exact absurd (by decide) k4
    | some m => exact ⟨m, rfl⟩
  have hmn : mnI l = (m : Nat) := by unfold mnI; rw [hfn]
  obtain ⟨m1, _⟩ := fnd_some hfn
  have hf : fmd l = true := hq.2 ⟨eq _ 44 (by omega) h3, eq _ 32 (by omega) h4, eq _ 32 (by omega) h7, eq _ 32 (by omega) h11, eq _ 32 (by omega) h16, eq _ 58 (by omega) h19, eq _ 58 (by omega) h22, h25, a1, a2, a3, a4, a5⟩
  have hr : rdL l = rdQ l m := by unfold rdL; rw [if_pos hf, hfn]; rfl
  have hQ : rdQ l m = (if numL (sl l 12 16) < 1970 ∨ 2037 < numL (sl l 12 16) then none
    else if numL (sl l 5 7) < 1 ∨ lenN (numL (sl l 12 16)) m < numL (sl l 5 7) then none
    else if 23 < numL (sl l 17 19) ∨ 59 < numL (sl l 20 22) ∨ 59 < numL (sl l 23 25) then none
    else if nm3 wkL (dayOf (numL (sl l 12 16)) m (numL (sl l 5 7)) % 7) ≠ sl l 0 3 then none
    else some (dayOf (numL (sl l 12 16)) m (numL (sl l 5 7)) * 86400 + (numL (sl l 17 19) * 60 + numL (sl l 20 22)) * 60 + numL (sl l 23 25))) := rfl
  rw [b1] at k1 k11
  rw [b2] at k2 k3 k11
  rw [b3] at k5 k6
  rw [b4] at k7 k8
  rw [b5] at k9 k10
  rw [hmn, lenI_nat] at k11
  rw [b1, b2, b3, b4, b5, hmn]
  clear F hq a1 a2 a3 a4 a5 b1 b2 b3 b4 b5
  generalize numL (sl l 12 16) = y at *
  generalize numL (sl l 5 7) = d at *
  generalize numL (sl l 17 19) = hh at *
  generalize numL (sl l 20 22) = mi at *
  generalize numL (sl l 23 25) = ss at *
  rw [if_neg (by omega), if_neg (by omega), if_neg (by omega)] at hQ
  have hl := len_le y m
  refine ⟨⟨l, d - 1, y, m, (hh : Nat), (mi : Nat), (ss : Nat)⟩, ⟨by simp only; omega, by simp only; omega, by simp only; omega⟩, rfl, rfl, rfl, rfl, rfl, rfl, by simp only; rw [wr64_id (by unfold I64; omega)]; omega, fun _ _ => ?_⟩
  simp only
  refine ⟨⟨l, d - 1, y, m, (hh : Nat), (mi : Nat), (ss : Nat)⟩, ⟨by simp only; omega, by simp only; omega, by simp only; omega, by simp only; omega⟩, rfl, rfl, rfl, rfl, rfl, rfl, rfl, fun _ _ => ?_⟩
  simp only
  have hb : befN y m ≤ 100000 := by have := cum_le y m (by omega); unfold befN; omega
  have hD : d - 1 + befN y m = dayOf y m d := by unfold dayOf; omega
  have hD2 : dayOf y m d ≤ 200000 := by omega
  rw [hD]
  generalize dayOf y m d = D at *
  have q7 : (D : Int).tmod 7 = ((D % 7 : Nat) : Int) := by rw [Int.tmod_eq_emod_of_nonneg (by omega)]; omega
  rw [q7, wr64_id (n := 3 * ((D % 7 : Nat) : Int)) (by unfold I64; omega), wr64_id (n := 3 * ((D % 7 : Nat) : Int) + 3) (by unfold I64; omega)]
  rw [show bs (sl wkL (3 * ((D % 7 : Nat) : Int)).toNat (3 * ((D % 7 : Nat) : Int) + 3).toNat) = bs (nm3 wkL (D % 7)) from sub_nm wkL (D % 7)]
  rw [strEq_bs]
  refine br_dec (by omega) (br_dec (by omega) (br_dec (by omega) (br_dec (by omega) (br_intro (fun g => hnone ?_) (fun g => ?_)))))
  · have g : sl l 0 3 ≠ nm3 wkL (D % 7) := by simpa using g
    rw [hr, hQ, if_pos (Ne.symm g)]
  · have g : sl l 0 3 = nm3 wkL (D % 7) := by simpa using g
    rw [if_neg (by simp [g])] at hQ
    rw [hr, hQ]
    refine ⟨?_, rfl⟩
    rw [wr64_id (n := (D : Int) * 24) (by unfold I64; omega), wr64_id (n := (D : Int) * 24 + hh) (by unfold I64; omega), wr64_id (n := ((D : Int) * 24 + hh) * 60) (by unfold I64; omega), wr64_id (n := ((D : Int) * 24 + hh) * 60 + mi) (by unfold I64; omega), wr64_id (n := (((D : Int) * 24 + hh) * 60 + mi) * 60) (by unfold I64; omega), wr64_id (by unfold I64; omega)]
    simp only [Option.getD_some]; omega
end Go.Proofs.Ytideeogedleabaa.tk
