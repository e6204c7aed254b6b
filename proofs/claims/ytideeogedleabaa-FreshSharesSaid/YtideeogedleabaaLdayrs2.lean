/- A date read, and shown. -/
import Derived.Test.YtideeogedleabaaSz9
import Derived.Test.YtideeogedleabaaRows
import Derived.Test.YtideeogedleabaaLdayp
set_option maxRecDepth 20000
set_option linter.unusedSimpArgs false
set_option linter.unusedVariables false
namespace Go.Proofs.Ytideeogedleabaa.tk
open Go Go.Ev Go.Sy Go.RowKit Go.Proofs.Ytideeogedleabaa.gl
def dg2S (n : Int) : ByteArray := bs (dg2 n.toNat)
def dg4S (n : Int) : ByteArray := bs (dg4 n.toNat)
def rdI (s : ByteArray) : Int := ((rdL (L s)).getD 0 : Nat)
def rdB (s : ByteArray) : Bool := (rdL (L s)).isSome
def shN (n : Int) : Nat := (min (max n 0) 2147483647).toNat
def shS (n : Int) : ByteArray := bs (shL (shN n))
def moB : ByteArray := ⟨#[74, 97, 110, 70, 101, 98, 77, 97, 114, 65, 112, 114, 77, 97, 121, 74, 117, 110, 74, 117, 108, 65, 117, 103, 83, 101, 112, 79, 99, 116, 78, 111, 118, 68, 101, 99]⟩
def cDs : FuncId → List Value → List Row → Option (Prop × Value × List Row)
  | 55, [.int .i64 y, .int .i64 m], [] => some (0 ≤ y ∧ 0 ≤ m, .int .i64 (lenI y m), [])
  | 41, [.int .i64 y, .int .i64 m], [] => some (1970 ≤ y ∧ y ≤ 3000 ∧ 0 ≤ m ∧ m ≤ 12, .int .i64 (bfI y m), [])
  | 43, [.int .i64 n, .int .i64 2], [] => some (0 ≤ n ∧ n ≤ 100000, .string (dg2S n), [])
  | 43, [.int .i64 n, .int .i64 4], [] => some (0 ≤ n ∧ n ≤ 100000, .string (dg4S n), [])
  | 60, [.string s], [] => some ((L s).length ≤ 6, .int .i64 (numI s), [])
  | 61, [.string l, .string s], [] => some (l = moB ∧ (L s).length ≤ maxLen, .int .i64 (fnI s), [])
  | 59, [.string s], [] => some ((L s).length ≤ maxLen, .bool (fmB s), [])
  | _, _, _ => none
def kDs (f : FuncId) : Bool := Nat.beq f 55 || Nat.beq f 41 || Nat.beq f 43 || Nat.beq f 60 || Nat.beq f 61 || Nat.beq f 59
noncomputable abbrev EDs : Env := envC Try.prog cDs kDs
structure GSh where
  d : Nat
  r : Nat
  y : Nat
def pSy : List Nat := [0, 0, 1, 1, 1, 1]
def slSy (g : GSh) (y : Nat) : List (Nat × Value) := [(3, .int .i64 (g.d : Nat)), (4, .int .i64 (g.r : Nat)), (5, .int .i64 (y : Nat))]
def wsSy (g : GSh) : List (Gate Unit) := [⟨.exit 0, fun _ => True, fun _ => slSy g (yrN g.d), fun _ => [], 0⟩]
def specSy : Sy.Spec := specOf 0 0 72 (fun g : GSh => g.d ≤ 30000) (fun g => slSy g 1970) (fun _ => []) wsSy
def pSm : List Nat := [0, 0, 1, 1, 1, 1, 1, 1]
def slSm (g : GSh) (m : Nat) : List (Nat × Value) := [(3, .int .i64 (g.d : Nat)), (4, .int .i64 (g.r : Nat)), (5, .int .i64 (g.y : Nat)), (6, .int .i64 (m : Nat))]
def wsSm (g : GSh) : List (Gate Unit) := [⟨.exit 2, fun _ => True, fun _ => slSm g (moN g.d), fun _ => [], 0⟩]
def specSm : Sy.Spec := specOf 0 0 72 (fun g : GSh => g.d ≤ 30000 ∧ g.y = yrN g.d) (fun g => slSm g 0) (fun _ => []) wsSm
def mSh := mOf [(20, pSy, specSy), (20, pSm, specSm)]
theorem rd_vc (l : List UInt8) (v : Int) (b : Bool) : mcall EDs noM 60 47 [.string (bs l)] ⟨mkR (nums 0 []), 0⟩ (retIs 0 (.tuple #[.int .i64 v, .bool b]) []) =
  ((((True /\ True) /\ (True /\ List.length (L (bs l)) <= 9223372036854775807))) /\ (br (!fmB (bs l)) ((v = (0 : Int)) /\ ((b = false) /\ True)) (br (decide ((0 : Int) <=
  (12 : Int) /\ (12 : Int) <= (16 : Int) /\ (16 : Int) <= (↑(List.length (Array.toList (ByteArray.data (bs l)))) : Int))) ((((True /\ True) /\ (True /\ List.length (L (sub
  (bs l) 12 16)) <= 6))) /\ (br (decide ((0 : Int) <= (8 : Int) /\ (8 : Int) <= (11 : Int) /\ (11 : Int) <= (↑(List.length (Array.toList (ByteArray.data (bs l)))) : Int)))
  ((((True /\ (True /\ True)) /\ (True /\ (ByteArray.mk #[74, 97, 110, 70, 101, 98, 77, 97, 114, 65, 112, 114, 77, 97, 121, 74, 117, 110, 74, 117, 108, 65, 117, 103, 83,
  101, 112, 79, 99, 116, 78, 111, 118, 68, 101, 99] = moB /\ List.length (L (sub (bs l) 8 11)) <= 9223372036854775807)))) /\ (br (decide ((0 : Int) <= (12 : Int) /\ (12 :
  Int) <= (16 : Int) /\ (16 : Int) <= (↑(List.length (Array.toList (ByteArray.data (bs l)))) : Int))) ((Value.string (sub (bs l) 12 16) = Value.string (sub (bs l) 12 16)) /\
  (br (decide ((0 : Int) <= (8 : Int) /\ (8 : Int) <= (11 : Int) /\ (11 : Int) <= (↑(List.length (Array.toList (ByteArray.data (bs l)))) : Int))) ((Value.string (sub (bs l)
  8 11) = Value.string (sub (bs l) 8 11)) /\ (br (decide ((0 : Int) <= (8 : Int) /\ (8 : Int) <= (11 : Int) /\ (11 : Int) <= (↑(List.length (Array.toList (ByteArray.data (bs
  l)))) : Int))) ((Value.string (sub (bs l) 8 11) = Value.string (sub (bs l) 8 11)) /\ (br (decide (numI (sub (bs l) 12 16) < (1970 : Int))) ((v = (0 : Int)) /\ ((b = false)
  /\ True)) (br (decide (numI (sub (bs l) 12 16) > (2037 : Int))) ((v = (0 : Int)) /\ ((b = false) /\ True)) (br (decide (fnI (sub (bs l) 8 11) < (0 : Int))) ((v = (0 :
  Int)) /\ ((b = false) /\ True)) (br (decide ((0 : Int) <= (5 : Int) /\ (5 : Int) <= (7 : Int) /\ (7 : Int) <= (↑(List.length (Array.toList (ByteArray.data (bs l)))) :
  Int))) ((((True /\ True) /\ (True /\ List.length (L (sub (bs l) 5 7)) <= 6))) /\ (br (decide (numI (sub (bs l) 5 7) < (1 : Int))) ((v = (0 : Int)) /\ ((b = false) /\
  True)) ((((True /\ (True /\ True)) /\ (True /\ ((0 : Int) <= numI (sub (bs l) 12 16) /\ (0 : Int) <= fnI (sub (bs l) 8 11))))) /\ (br (decide (numI (sub (bs l) 5 7) > lenI
  (numI (sub (bs l) 12 16)) (fnI (sub (bs l) 8 11)))) ((v = (0 : Int)) /\ ((b = false) /\ True)) (br (decide ((0 : Int) <= (17 : Int) /\ (17 : Int) <= (19 : Int) /\ (19 :
  Int) <= (↑(List.length (Array.toList (ByteArray.data (bs l)))) : Int))) ((((True /\ True) /\ (True /\ List.length (L (sub (bs l) 17 19)) <= 6))) /\ (br (decide ((0 : Int)
  <= (20 : Int) /\ (20 : Int) <= (22 : Int) /\ (22 : Int) <= (↑(List.length (Array.toList (ByteArray.data (bs l)))) : Int))) ((((True /\ True) /\ (True /\ List.length (L
  (sub (bs l) 20 22)) <= 6))) /\ (br (decide ((0 : Int) <= (23 : Int) /\ (23 : Int) <= (25 : Int) /\ (25 : Int) <= (↑(List.length (Array.toList (ByteArray.data (bs l)))) :
  Int))) ((((True /\ True) /\ (True /\ List.length (L (sub (bs l) 23 25)) <= 6))) /\ (br (decide ((0 : Int) <= (17 : Int) /\ (17 : Int) <= (19 : Int) /\ (19 : Int) <=
  (↑(List.length (Array.toList (ByteArray.data (bs l)))) : Int))) ((Value.string (sub (bs l) 17 19) = Value.string (sub (bs l) 17 19)) /\ (br (decide ((0 : Int) <= (20 :
  Int) /\ (20 : Int) <= (22 : Int) /\ (22 : Int) <= (↑(List.length (Array.toList (ByteArray.data (bs l)))) : Int))) ((Value.string (sub (bs l) 20 22) = Value.string (sub (bs
  l) 20 22)) /\ (br (decide ((0 : Int) <= (20 : Int) /\ (20 : Int) <= (22 : Int) /\ (22 : Int) <= (↑(List.length (Array.toList (ByteArray.data (bs l)))) : Int)))
  ((Value.string (sub (bs l) 20 22) = Value.string (sub (bs l) 20 22)) /\ (br (decide ((0 : Int) <= (23 : Int) /\ (23 : Int) <= (25 : Int) /\ (25 : Int) <= (↑(List.length
  (Array.toList (ByteArray.data (bs l)))) : Int))) ((Value.string (sub (bs l) 23 25) = Value.string (sub (bs l) 23 25)) /\ (br (decide ((0 : Int) <= (23 : Int) /\ (23 : Int)
  <= (25 : Int) /\ (25 : Int) <= (↑(List.length (Array.toList (ByteArray.data (bs l)))) : Int))) ((Value.string (sub (bs l) 23 25) = Value.string (sub (bs l) 23 25)) /\ (br
  (decide ((0 : Int) <= (23 : Int) /\ (23 : Int) <= (25 : Int) /\ (25 : Int) <= (↑(List.length (Array.toList (ByteArray.data (bs l)))) : Int))) ((Value.string (sub (bs l) 23
  25) = Value.string (sub (bs l) 23 25)) /\ (br (decide (numI (sub (bs l) 17 19) > (23 : Int))) ((v = (0 : Int)) /\ ((b = false) /\ True)) (br (decide (numI (sub (bs l) 20
  22) > (59 : Int))) ((v = (0 : Int)) /\ ((b = false) /\ True)) (br (decide (numI (sub (bs l) 23 25) > (59 : Int))) ((v = (0 : Int)) /\ ((b = false) /\ True)) ((((True /\
  (True /\ True)) /\ (True /\ ((1970 : Int) <= numI (sub (bs l) 12 16) /\ (numI (sub (bs l) 12 16) <= (3000 : Int) /\ ((0 : Int) <= fnI (sub (bs l) 8 11) /\ fnI (sub (bs l)
  8 11) <= (12 : Int))))))) /\ (br (decide ((0 : Int) <= IntKind.wrap IntKind.i64 ((3 : Int) * Int.tmod (IntKind.wrap IntKind.i64 (IntKind.wrap IntKind.i64 (bfI (numI (sub
  (bs l) 12 16)) (fnI (sub (bs l) 8 11)) + numI (sub (bs l) 5 7)) - (1 : Int))) (7 : Int)) /\ IntKind.wrap IntKind.i64 ((3 : Int) * Int.tmod (IntKind.wrap IntKind.i64
  (IntKind.wrap IntKind.i64 (bfI (numI (sub (bs l) 12 16)) (fnI (sub (bs l) 8 11)) + numI (sub (bs l) 5 7)) - (1 : Int))) (7 : Int)) <= IntKind.wrap IntKind.i64
  (IntKind.wrap IntKind.i64 ((3 : Int) * Int.tmod (IntKind.wrap IntKind.i64 (IntKind.wrap IntKind.i64 (bfI (numI (sub (bs l) 12 16)) (fnI (sub (bs l) 8 11)) + numI (sub (bs
  l) 5 7)) - (1 : Int))) (7 : Int)) + (3 : Int)) /\ IntKind.wrap IntKind.i64 (IntKind.wrap IntKind.i64 ((3 : Int) * Int.tmod (IntKind.wrap IntKind.i64 (IntKind.wrap
  IntKind.i64 (bfI (numI (sub (bs l) 12 16)) (fnI (sub (bs l) 8 11)) + numI (sub (bs l) 5 7)) - (1 : Int))) (7 : Int)) + (3 : Int)) <= (21 : Int))) (br (decide ((0 : Int) <=
  (↑0 : Int) /\ (↑0 : Int) <= (3 : Int) /\ (3 : Int) <= (↑(List.length (Array.toList (ByteArray.data (bs l)))) : Int))) (br (decide ((0 : Int) <= (↑0 : Int) /\ (↑0 : Int) <=
  (3 : Int) /\ (3 : Int) <= (↑(List.length (Array.toList (ByteArray.data (bs l)))) : Int))) ((Value.string (sub (bs l) 0 3) = Value.string (sub (bs l) 0 3)) /\ (br (decide
  ((0 : Int) <= (↑0 : Int) /\ (↑0 : Int) <= (3 : Int) /\ (3 : Int) <= (↑(List.length (Array.toList (ByteArray.data (bs l)))) : Int))) ((Value.string (sub (bs l) 0 3) =
  Value.string (sub (bs l) 0 3)) /\ (br (!strEq (sub (ByteArray.mk #[84, 104, 117, 70, 114, 105, 83, 97, 116, 83, 117, 110, 77, 111, 110, 84, 117, 101, 87, 101, 100])
  (Int.toNat (IntKind.wrap IntKind.i64 ((3 : Int) * Int.tmod (IntKind.wrap IntKind.i64 (IntKind.wrap IntKind.i64 (bfI (numI (sub (bs l) 12 16)) (fnI (sub (bs l) 8 11)) +
  numI (sub (bs l) 5 7)) - (1 : Int))) (7 : Int)))) (Int.toNat (IntKind.wrap IntKind.i64 (IntKind.wrap IntKind.i64 ((3 : Int) * Int.tmod (IntKind.wrap IntKind.i64
  (IntKind.wrap IntKind.i64 (bfI (numI (sub (bs l) 12 16)) (fnI (sub (bs l) 8 11)) + numI (sub (bs l) 5 7)) - (1 : Int))) (7 : Int)) + (3 : Int))))) (sub (bs l) 0 3)) ((v =
  (0 : Int)) /\ ((b = false) /\ True)) ((v = IntKind.wrap IntKind.i64 (IntKind.wrap IntKind.i64 (IntKind.wrap IntKind.i64 (IntKind.wrap IntKind.i64 (IntKind.wrap IntKind.i64
  (bfI (numI (sub (bs l) 12 16)) (fnI (sub (bs l) 8 11)) + numI (sub (bs l) 5 7)) - (1 : Int)) * (86400 : Int)) + IntKind.wrap IntKind.i64 (IntKind.wrap IntKind.i64
  (IntKind.wrap IntKind.i64 (numI (sub (bs l) 17 19) * (60 : Int)) + numI (sub (bs l) 20 22)) * (60 : Int))) + numI (sub (bs l) 23 25))) /\ ((b = true) /\ True)))) False))
  False) False) False)))))) False)) False)) False)) False)) False)) False)) False)) False)) False))))) False))))) False)) False)) False)) False)) False))) := by kernel_rfl
theorem sy_round (g : GSh) (i : Nat) (Inv : Nat → Prop) (m : Nat → Nat) : mev EDs noM 60 20 (0 :: pSy) false (codeOf Try.prog 20 (0 :: pSy)) ⟨mkOv (slSy g i), 72, []⟩ none ⟨mkR [], 0⟩ (roundK 0 0 72 Inv m (slSy g) (fun _ => []) (wsSy g) i) =
  ((((True /\ (True /\ True)) /\ (True /\ ((1970 : Int) <= IntKind.wrap IntKind.i64 ((↑i : Int) + (1 : Int)) /\ (IntKind.wrap IntKind.i64 ((↑i : Int) + (1 : Int)) <= (3000 :
  Int) /\ ((0 : Int) <= (0 : Int) /\ (0 : Int) <= (12 : Int))))))) /\ (br (decide (bfI (IntKind.wrap IntKind.i64 ((↑i : Int) + (1 : Int))) (0 : Int) <= (↑g.1 : Int))) (∃ j :
  Nat, ((Inv j) /\ ((m j < m i) /\ (((↑g.1 : Int) = (↑g.1 : Int)) /\ (((↑g.2 : Int) = (↑g.2 : Int)) /\ (((↑j : Int) = IntKind.wrap IntKind.i64 ((↑i : Int) + (1 : Int))) /\
  True)))))) (∃ y : Unit, ((True) /\ (((↑g.1 : Int) = (↑g.1 : Int)) /\ (((↑g.2 : Int) = (↑g.2 : Int)) /\ (((↑(yrN g.1) : Int) = (↑i : Int)) /\ True))))))) := by kernel_rfl
theorem sm_round (g : GSh) (i : Nat) (Inv : Nat → Prop) (m : Nat → Nat) : mev EDs noM 60 20 (0 :: pSm) false (codeOf Try.prog 20 (0 :: pSm)) ⟨mkOv (slSm g i), 72, []⟩ none ⟨mkR [], 0⟩ (roundK 0 0 72 Inv m (slSm g) (fun _ => []) (wsSm g) i) =
  (br (decide ((↑i : Int) < (11 : Int))) ((((True /\ (True /\ True)) /\ (True /\ ((1970 : Int) <= (↑g.3 : Int) /\ ((↑g.3 : Int) <= (3000 : Int) /\ ((0 : Int) <= IntKind.wrap
  IntKind.i64 ((↑i : Int) + (1 : Int)) /\ IntKind.wrap IntKind.i64 ((↑i : Int) + (1 : Int)) <= (12 : Int))))))) /\ (br (decide (bfI (↑g.3 : Int) (IntKind.wrap IntKind.i64
  ((↑i : Int) + (1 : Int))) <= (↑g.1 : Int))) (∃ j : Nat, ((Inv j) /\ ((m j < m i) /\ (((↑g.1 : Int) = (↑g.1 : Int)) /\ (((↑g.2 : Int) = (↑g.2 : Int)) /\ (((↑g.3 : Int) =
  (↑g.3 : Int)) /\ (((↑j : Int) = IntKind.wrap IntKind.i64 ((↑i : Int) + (1 : Int))) /\ True))))))) (∃ y : Unit, ((True) /\ (((↑g.1 : Int) = (↑g.1 : Int)) /\ (((↑g.2 : Int)
  = (↑g.2 : Int)) /\ (((↑g.3 : Int) = (↑g.3 : Int)) /\ (((↑(moN g.1) : Int) = (↑i : Int)) /\ True)))))))) (∃ y : Unit, ((True) /\ (((↑g.1 : Int) = (↑g.1 : Int)) /\ (((↑g.2 :
  Int) = (↑g.2 : Int)) /\ (((↑g.3 : Int) = (↑g.3 : Int)) /\ (((↑(moN g.1) : Int) = (↑i : Int)) /\ True))))))) := by kernel_rfl
theorem sh_vc (n : Int) (v : List UInt8) : mcall EDs mSh 60 20 [.int .i64 n] ⟨mkR (nums 0 []), 0⟩ (retIs 0 (.string (bs v)) []) =
  (∃ g : GSh, ((g.1 <= 30000) /\ (((↑g.1 : Int) = IntKind.wrap IntKind.i64 (Int.tdiv (if (2147483647 : Int) < if (0 : Int) > n then (0 : Int) else n then (2147483647 : Int)
  else if (0 : Int) > n then (0 : Int) else n) (86400 : Int))) /\ (((↑g.2 : Int) = Int.tmod (if (2147483647 : Int) < if (0 : Int) > n then (0 : Int) else n then (2147483647
  : Int) else if (0 : Int) > n then (0 : Int) else n) (86400 : Int)) /\ (((1970 : Int) = (1970 : Int)) /\ (∀ (y : Unit), ((True) → (∃ g2 : GSh, ((g2.1 <= 30000 /\ g2.3 = yrN
  g2.1) /\ (((↑g2.1 : Int) = (↑g.1 : Int)) /\ (((↑g2.2 : Int) = (↑g.2 : Int)) /\ (((↑g2.3 : Int) = (↑(yrN g.1) : Int)) /\ (((0 : Int) = (0 : Int)) /\ (∀ (y2 : Unit), ((True)
  → ((((True /\ (True /\ True)) /\ (True /\ ((1970 : Int) <= (↑g2.3 : Int) /\ ((↑g2.3 : Int) <= (3000 : Int) /\ ((0 : Int) <= (↑(moN g2.1) : Int) /\ (↑(moN g2.1) : Int) <=
  (12 : Int))))))) /\ (br (decide ((0 : Int) <= IntKind.wrap IntKind.i64 ((3 : Int) * Int.tmod (↑g2.1 : Int) (7 : Int)) /\ IntKind.wrap IntKind.i64 ((3 : Int) * Int.tmod
  (↑g2.1 : Int) (7 : Int)) <= IntKind.wrap IntKind.i64 (IntKind.wrap IntKind.i64 ((3 : Int) * Int.tmod (↑g2.1 : Int) (7 : Int)) + (3 : Int)) /\ IntKind.wrap IntKind.i64
  (IntKind.wrap IntKind.i64 ((3 : Int) * Int.tmod (↑g2.1 : Int) (7 : Int)) + (3 : Int)) <= (21 : Int))) (br (decide (List.length (Array.toList (ByteArray.data (sub
  (ByteArray.mk #[84, 104, 117, 70, 114, 105, 83, 97, 116, 83, 117, 110, 77, 111, 110, 84, 117, 101, 87, 101, 100]) (Int.toNat (IntKind.wrap IntKind.i64 ((3 : Int) *
  Int.tmod (↑g2.1 : Int) (7 : Int)))) (Int.toNat (IntKind.wrap IntKind.i64 (IntKind.wrap IntKind.i64 ((3 : Int) * Int.tmod (↑g2.1 : Int) (7 : Int)) + (3 : Int))))))) + 2 <=
  9223372036854775807)) ((((True /\ (True /\ True)) /\ (True /\ ((0 : Int) <= IntKind.wrap IntKind.i64 (IntKind.wrap IntKind.i64 ((↑g2.1 : Int) - bfI (↑g2.3 : Int) (↑(moN
  g2.1) : Int)) + (1 : Int)) /\ IntKind.wrap IntKind.i64 (IntKind.wrap IntKind.i64 ((↑g2.1 : Int) - bfI (↑g2.3 : Int) (↑(moN g2.1) : Int)) + (1 : Int)) <= (100000 : Int)))))
  /\ (br (decide (List.length (Array.toList (ByteArray.data (sub (ByteArray.mk #[84, 104, 117, 70, 114, 105, 83, 97, 116, 83, 117, 110, 77, 111, 110, 84, 117, 101, 87, 101,
  100]) (Int.toNat (IntKind.wrap IntKind.i64 ((3 : Int) * Int.tmod (↑g2.1 : Int) (7 : Int)))) (Int.toNat (IntKind.wrap IntKind.i64 (IntKind.wrap IntKind.i64 ((3 : Int) *
  Int.tmod (↑g2.1 : Int) (7 : Int)) + (3 : Int)))))) ++ [44, 32]) + 2 <= 9223372036854775807)) (br (decide (List.length (Array.toList (ByteArray.data (sub (ByteArray.mk
  #[84, 104, 117, 70, 114, 105, 83, 97, 116, 83, 117, 110, 77, 111, 110, 84, 117, 101, 87, 101, 100]) (Int.toNat (IntKind.wrap IntKind.i64 ((3 : Int) * Int.tmod (↑g2.1 :
  Int) (7 : Int)))) (Int.toNat (IntKind.wrap IntKind.i64 (IntKind.wrap IntKind.i64 ((3 : Int) * Int.tmod (↑g2.1 : Int) (7 : Int)) + (3 : Int)))))) ++ [44, 32] ++ [dgc
  (Int.toNat (IntKind.wrap IntKind.i64 (IntKind.wrap IntKind.i64 ((↑g2.1 : Int) - bfI (↑g2.3 : Int) (↑(moN g2.1) : Int)) + (1 : Int))) / 10), dgc (Int.toNat (IntKind.wrap
  IntKind.i64 (IntKind.wrap IntKind.i64 ((↑g2.1 : Int) - bfI (↑g2.3 : Int) (↑(moN g2.1) : Int)) + (1 : Int))))]) + 1 <= 9223372036854775807)) (br (decide ((0 : Int) <=
  IntKind.wrap IntKind.i64 ((3 : Int) * (↑(moN g2.1) : Int)) /\ IntKind.wrap IntKind.i64 ((3 : Int) * (↑(moN g2.1) : Int)) <= IntKind.wrap IntKind.i64 (IntKind.wrap
  IntKind.i64 ((3 : Int) * (↑(moN g2.1) : Int)) + (3 : Int)) /\ IntKind.wrap IntKind.i64 (IntKind.wrap IntKind.i64 ((3 : Int) * (↑(moN g2.1) : Int)) + (3 : Int)) <= (36 :
  Int))) (br (decide (List.length (Array.toList (ByteArray.data (sub (ByteArray.mk #[84, 104, 117, 70, 114, 105, 83, 97, 116, 83, 117, 110, 77, 111, 110, 84, 117, 101, 87,
  101, 100]) (Int.toNat (IntKind.wrap IntKind.i64 ((3 : Int) * Int.tmod (↑g2.1 : Int) (7 : Int)))) (Int.toNat (IntKind.wrap IntKind.i64 (IntKind.wrap IntKind.i64 ((3 : Int)
  * Int.tmod (↑g2.1 : Int) (7 : Int)) + (3 : Int)))))) ++ [44, 32] ++ [dgc (Int.toNat (IntKind.wrap IntKind.i64 (IntKind.wrap IntKind.i64 ((↑g2.1 : Int) - bfI (↑g2.3 : Int)
  (↑(moN g2.1) : Int)) + (1 : Int))) / 10), dgc (Int.toNat (IntKind.wrap IntKind.i64 (IntKind.wrap IntKind.i64 ((↑g2.1 : Int) - bfI (↑g2.3 : Int) (↑(moN g2.1) : Int)) + (1 :
  Int))))] ++ [32]) + List.length (Array.toList (ByteArray.data (sub (ByteArray.mk #[74, 97, 110, 70, 101, 98, 77, 97, 114, 65, 112, 114, 77, 97, 121, 74, 117, 110, 74, 117,
  108, 65, 117, 103, 83, 101, 112, 79, 99, 116, 78, 111, 118, 68, 101, 99]) (Int.toNat (IntKind.wrap IntKind.i64 ((3 : Int) * (↑(moN g2.1) : Int)))) (Int.toNat (IntKind.wrap
  IntKind.i64 (IntKind.wrap IntKind.i64 ((3 : Int) * (↑(moN g2.1) : Int)) + (3 : Int))))))) <= 9223372036854775807)) (br (decide (List.length (Array.toList (ByteArray.data
  (sub (ByteArray.mk #[84, 104, 117, 70, 114, 105, 83, 97, 116, 83, 117, 110, 77, 111, 110, 84, 117, 101, 87, 101, 100]) (Int.toNat (IntKind.wrap IntKind.i64 ((3 : Int) *
  Int.tmod (↑g2.1 : Int) (7 : Int)))) (Int.toNat (IntKind.wrap IntKind.i64 (IntKind.wrap IntKind.i64 ((3 : Int) * Int.tmod (↑g2.1 : Int) (7 : Int)) + (3 : Int)))))) ++ [44,
  32] ++ [dgc (Int.toNat (IntKind.wrap IntKind.i64 (IntKind.wrap IntKind.i64 ((↑g2.1 : Int) - bfI (↑g2.3 : Int) (↑(moN g2.1) : Int)) + (1 : Int))) / 10), dgc (Int.toNat
  (IntKind.wrap IntKind.i64 (IntKind.wrap IntKind.i64 ((↑g2.1 : Int) - bfI (↑g2.3 : Int) (↑(moN g2.1) : Int)) + (1 : Int))))] ++ [32] ++ Array.toList (ByteArray.data (sub
  (ByteArray.mk #[74, 97, 110, 70, 101, 98, 77, 97, 114, 65, 112, 114, 77, 97, 121, 74, 117, 110, 74, 117, 108, 65, 117, 103, 83, 101, 112, 79, 99, 116, 78, 111, 118, 68,
  101, 99]) (Int.toNat (IntKind.wrap IntKind.i64 ((3 : Int) * (↑(moN g2.1) : Int)))) (Int.toNat (IntKind.wrap IntKind.i64 (IntKind.wrap IntKind.i64 ((3 : Int) * (↑(moN g2.1)
  : Int)) + (3 : Int))))))) + 1 <= 9223372036854775807)) ((((True /\ (True /\ True)) /\ (True /\ ((0 : Int) <= (↑g2.3 : Int) /\ (↑g2.3 : Int) <= (100000 : Int))))) /\ (br
  (decide (List.length (Array.toList (ByteArray.data (sub (ByteArray.mk #[84, 104, 117, 70, 114, 105, 83, 97, 116, 83, 117, 110, 77, 111, 110, 84, 117, 101, 87, 101, 100])
  (Int.toNat (IntKind.wrap IntKind.i64 ((3 : Int) * Int.tmod (↑g2.1 : Int) (7 : Int)))) (Int.toNat (IntKind.wrap IntKind.i64 (IntKind.wrap IntKind.i64 ((3 : Int) * Int.tmod
  (↑g2.1 : Int) (7 : Int)) + (3 : Int)))))) ++ [44, 32] ++ [dgc (Int.toNat (IntKind.wrap IntKind.i64 (IntKind.wrap IntKind.i64 ((↑g2.1 : Int) - bfI (↑g2.3 : Int) (↑(moN
  g2.1) : Int)) + (1 : Int))) / 10), dgc (Int.toNat (IntKind.wrap IntKind.i64 (IntKind.wrap IntKind.i64 ((↑g2.1 : Int) - bfI (↑g2.3 : Int) (↑(moN g2.1) : Int)) + (1 :
  Int))))] ++ [32] ++ Array.toList (ByteArray.data (sub (ByteArray.mk #[74, 97, 110, 70, 101, 98, 77, 97, 114, 65, 112, 114, 77, 97, 121, 74, 117, 110, 74, 117, 108, 65,
  117, 103, 83, 101, 112, 79, 99, 116, 78, 111, 118, 68, 101, 99]) (Int.toNat (IntKind.wrap IntKind.i64 ((3 : Int) * (↑(moN g2.1) : Int)))) (Int.toNat (IntKind.wrap
  IntKind.i64 (IntKind.wrap IntKind.i64 ((3 : Int) * (↑(moN g2.1) : Int)) + (3 : Int)))))) ++ [32]) + 4 <= 9223372036854775807)) (br (decide (List.length (Array.toList
  (ByteArray.data (sub (ByteArray.mk #[84, 104, 117, 70, 114, 105, 83, 97, 116, 83, 117, 110, 77, 111, 110, 84, 117, 101, 87, 101, 100]) (Int.toNat (IntKind.wrap IntKind.i64
  ((3 : Int) * Int.tmod (↑g2.1 : Int) (7 : Int)))) (Int.toNat (IntKind.wrap IntKind.i64 (IntKind.wrap IntKind.i64 ((3 : Int) * Int.tmod (↑g2.1 : Int) (7 : Int)) + (3 :
  Int)))))) ++ [44, 32] ++ [dgc (Int.toNat (IntKind.wrap IntKind.i64 (IntKind.wrap IntKind.i64 ((↑g2.1 : Int) - bfI (↑g2.3 : Int) (↑(moN g2.1) : Int)) + (1 : Int))) / 10),
  dgc (Int.toNat (IntKind.wrap IntKind.i64 (IntKind.wrap IntKind.i64 ((↑g2.1 : Int) - bfI (↑g2.3 : Int) (↑(moN g2.1) : Int)) + (1 : Int))))] ++ [32] ++ Array.toList
  (ByteArray.data (sub (ByteArray.mk #[74, 97, 110, 70, 101, 98, 77, 97, 114, 65, 112, 114, 77, 97, 121, 74, 117, 110, 74, 117, 108, 65, 117, 103, 83, 101, 112, 79, 99, 116,
  78, 111, 118, 68, 101, 99]) (Int.toNat (IntKind.wrap IntKind.i64 ((3 : Int) * (↑(moN g2.1) : Int)))) (Int.toNat (IntKind.wrap IntKind.i64 (IntKind.wrap IntKind.i64 ((3 :
  Int) * (↑(moN g2.1) : Int)) + (3 : Int)))))) ++ [32] ++ [dgc (Int.toNat (↑g2.3 : Int) / 1000), dgc (Int.toNat (↑g2.3 : Int) / 100), dgc (Int.toNat (↑g2.3 : Int) / 10), dgc
  (Int.toNat (↑g2.3 : Int))]) + 1 <= 9223372036854775807)) ((((True /\ (True /\ True)) /\ (True /\ ((0 : Int) <= IntKind.wrap IntKind.i64 (Int.tdiv (↑g2.2 : Int) (3600 :
  Int)) /\ IntKind.wrap IntKind.i64 (Int.tdiv (↑g2.2 : Int) (3600 : Int)) <= (100000 : Int))))) /\ (br (decide (List.length (Array.toList (ByteArray.data (sub (ByteArray.mk
  #[84, 104, 117, 70, 114, 105, 83, 97, 116, 83, 117, 110, 77, 111, 110, 84, 117, 101, 87, 101, 100]) (Int.toNat (IntKind.wrap IntKind.i64 ((3 : Int) * Int.tmod (↑g2.1 :
  Int) (7 : Int)))) (Int.toNat (IntKind.wrap IntKind.i64 (IntKind.wrap IntKind.i64 ((3 : Int) * Int.tmod (↑g2.1 : Int) (7 : Int)) + (3 : Int)))))) ++ [44, 32] ++ [dgc
  (Int.toNat (IntKind.wrap IntKind.i64 (IntKind.wrap IntKind.i64 ((↑g2.1 : Int) - bfI (↑g2.3 : Int) (↑(moN g2.1) : Int)) + (1 : Int))) / 10), dgc (Int.toNat (IntKind.wrap
  IntKind.i64 (IntKind.wrap IntKind.i64 ((↑g2.1 : Int) - bfI (↑g2.3 : Int) (↑(moN g2.1) : Int)) + (1 : Int))))] ++ [32] ++ Array.toList (ByteArray.data (sub (ByteArray.mk
  #[74, 97, 110, 70, 101, 98, 77, 97, 114, 65, 112, 114, 77, 97, 121, 74, 117, 110, 74, 117, 108, 65, 117, 103, 83, 101, 112, 79, 99, 116, 78, 111, 118, 68, 101, 99])
  (Int.toNat (IntKind.wrap IntKind.i64 ((3 : Int) * (↑(moN g2.1) : Int)))) (Int.toNat (IntKind.wrap IntKind.i64 (IntKind.wrap IntKind.i64 ((3 : Int) * (↑(moN g2.1) : Int)) +
  (3 : Int)))))) ++ [32] ++ [dgc (Int.toNat (↑g2.3 : Int) / 1000), dgc (Int.toNat (↑g2.3 : Int) / 100), dgc (Int.toNat (↑g2.3 : Int) / 10), dgc (Int.toNat (↑g2.3 : Int))] ++
  [32]) + 2 <= 9223372036854775807)) (br (decide (List.length (Array.toList (ByteArray.data (sub (ByteArray.mk #[84, 104, 117, 70, 114, 105, 83, 97, 116, 83, 117, 110, 77,
  111, 110, 84, 117, 101, 87, 101, 100]) (Int.toNat (IntKind.wrap IntKind.i64 ((3 : Int) * Int.tmod (↑g2.1 : Int) (7 : Int)))) (Int.toNat (IntKind.wrap IntKind.i64
  (IntKind.wrap IntKind.i64 ((3 : Int) * Int.tmod (↑g2.1 : Int) (7 : Int)) + (3 : Int)))))) ++ [44, 32] ++ [dgc (Int.toNat (IntKind.wrap IntKind.i64 (IntKind.wrap
  IntKind.i64 ((↑g2.1 : Int) - bfI (↑g2.3 : Int) (↑(moN g2.1) : Int)) + (1 : Int))) / 10), dgc (Int.toNat (IntKind.wrap IntKind.i64 (IntKind.wrap IntKind.i64 ((↑g2.1 : Int)
  - bfI (↑g2.3 : Int) (↑(moN g2.1) : Int)) + (1 : Int))))] ++ [32] ++ Array.toList (ByteArray.data (sub (ByteArray.mk #[74, 97, 110, 70, 101, 98, 77, 97, 114, 65, 112, 114,
  77, 97, 121, 74, 117, 110, 74, 117, 108, 65, 117, 103, 83, 101, 112, 79, 99, 116, 78, 111, 118, 68, 101, 99]) (Int.toNat (IntKind.wrap IntKind.i64 ((3 : Int) * (↑(moN
  g2.1) : Int)))) (Int.toNat (IntKind.wrap IntKind.i64 (IntKind.wrap IntKind.i64 ((3 : Int) * (↑(moN g2.1) : Int)) + (3 : Int)))))) ++ [32] ++ [dgc (Int.toNat (↑g2.3 : Int)
  / 1000), dgc (Int.toNat (↑g2.3 : Int) / 100), dgc (Int.toNat (↑g2.3 : Int) / 10), dgc (Int.toNat (↑g2.3 : Int))] ++ [32] ++ [dgc (Int.toNat (IntKind.wrap IntKind.i64
  (Int.tdiv (↑g2.2 : Int) (3600 : Int))) / 10), dgc (Int.toNat (IntKind.wrap IntKind.i64 (Int.tdiv (↑g2.2 : Int) (3600 : Int))))]) + 1 <= 9223372036854775807)) ((((True /\
  (True /\ True)) /\ (True /\ ((0 : Int) <= Int.tmod (IntKind.wrap IntKind.i64 (Int.tdiv (↑g2.2 : Int) (60 : Int))) (60 : Int) /\ Int.tmod (IntKind.wrap IntKind.i64
  (Int.tdiv (↑g2.2 : Int) (60 : Int))) (60 : Int) <= (100000 : Int))))) /\ (br (decide (List.length (Array.toList (ByteArray.data (sub (ByteArray.mk #[84, 104, 117, 70, 114,
  105, 83, 97, 116, 83, 117, 110, 77, 111, 110, 84, 117, 101, 87, 101, 100]) (Int.toNat (IntKind.wrap IntKind.i64 ((3 : Int) * Int.tmod (↑g2.1 : Int) (7 : Int)))) (Int.toNat
  (IntKind.wrap IntKind.i64 (IntKind.wrap IntKind.i64 ((3 : Int) * Int.tmod (↑g2.1 : Int) (7 : Int)) + (3 : Int)))))) ++ [44, 32] ++ [dgc (Int.toNat (IntKind.wrap
  IntKind.i64 (IntKind.wrap IntKind.i64 ((↑g2.1 : Int) - bfI (↑g2.3 : Int) (↑(moN g2.1) : Int)) + (1 : Int))) / 10), dgc (Int.toNat (IntKind.wrap IntKind.i64 (IntKind.wrap
  IntKind.i64 ((↑g2.1 : Int) - bfI (↑g2.3 : Int) (↑(moN g2.1) : Int)) + (1 : Int))))] ++ [32] ++ Array.toList (ByteArray.data (sub (ByteArray.mk #[74, 97, 110, 70, 101, 98,
  77, 97, 114, 65, 112, 114, 77, 97, 121, 74, 117, 110, 74, 117, 108, 65, 117, 103, 83, 101, 112, 79, 99, 116, 78, 111, 118, 68, 101, 99]) (Int.toNat (IntKind.wrap
  IntKind.i64 ((3 : Int) * (↑(moN g2.1) : Int)))) (Int.toNat (IntKind.wrap IntKind.i64 (IntKind.wrap IntKind.i64 ((3 : Int) * (↑(moN g2.1) : Int)) + (3 : Int)))))) ++ [32]
  ++ [dgc (Int.toNat (↑g2.3 : Int) / 1000), dgc (Int.toNat (↑g2.3 : Int) / 100), dgc (Int.toNat (↑g2.3 : Int) / 10), dgc (Int.toNat (↑g2.3 : Int))] ++ [32] ++ [dgc
  (Int.toNat (IntKind.wrap IntKind.i64 (Int.tdiv (↑g2.2 : Int) (3600 : Int))) / 10), dgc (Int.toNat (IntKind.wrap IntKind.i64 (Int.tdiv (↑g2.2 : Int) (3600 : Int))))] ++
  [58]) + 2 <= 9223372036854775807)) (br (decide (List.length (Array.toList (ByteArray.data (sub (ByteArray.mk #[84, 104, 117, 70, 114, 105, 83, 97, 116, 83, 117, 110, 77,
  111, 110, 84, 117, 101, 87, 101, 100]) (Int.toNat (IntKind.wrap IntKind.i64 ((3 : Int) * Int.tmod (↑g2.1 : Int) (7 : Int)))) (Int.toNat (IntKind.wrap IntKind.i64
  (IntKind.wrap IntKind.i64 ((3 : Int) * Int.tmod (↑g2.1 : Int) (7 : Int)) + (3 : Int)))))) ++ [44, 32] ++ [dgc (Int.toNat (IntKind.wrap IntKind.i64 (IntKind.wrap
  IntKind.i64 ((↑g2.1 : Int) - bfI (↑g2.3 : Int) (↑(moN g2.1) : Int)) + (1 : Int))) / 10), dgc (Int.toNat (IntKind.wrap IntKind.i64 (IntKind.wrap IntKind.i64 ((↑g2.1 : Int)
  - bfI (↑g2.3 : Int) (↑(moN g2.1) : Int)) + (1 : Int))))] ++ [32] ++ Array.toList (ByteArray.data (sub (ByteArray.mk #[74, 97, 110, 70, 101, 98, 77, 97, 114, 65, 112, 114,
  77, 97, 121, 74, 117, 110, 74, 117, 108, 65, 117, 103, 83, 101, 112, 79, 99, 116, 78, 111, 118, 68, 101, 99]) (Int.toNat (IntKind.wrap IntKind.i64 ((3 : Int) * (↑(moN
  g2.1) : Int)))) (Int.toNat (IntKind.wrap IntKind.i64 (IntKind.wrap IntKind.i64 ((3 : Int) * (↑(moN g2.1) : Int)) + (3 : Int)))))) ++ [32] ++ [dgc (Int.toNat (↑g2.3 : Int)
  / 1000), dgc (Int.toNat (↑g2.3 : Int) / 100), dgc (Int.toNat (↑g2.3 : Int) / 10), dgc (Int.toNat (↑g2.3 : Int))] ++ [32] ++ [dgc (Int.toNat (IntKind.wrap IntKind.i64
  (Int.tdiv (↑g2.2 : Int) (3600 : Int))) / 10), dgc (Int.toNat (IntKind.wrap IntKind.i64 (Int.tdiv (↑g2.2 : Int) (3600 : Int))))] ++ [58] ++ [dgc (Int.toNat (Int.tmod
  (IntKind.wrap IntKind.i64 (Int.tdiv (↑g2.2 : Int) (60 : Int))) (60 : Int)) / 10), dgc (Int.toNat (Int.tmod (IntKind.wrap IntKind.i64 (Int.tdiv (↑g2.2 : Int) (60 : Int)))
  (60 : Int)))]) + 1 <= 9223372036854775807)) ((((True /\ (True /\ True)) /\ (True /\ ((0 : Int) <= Int.tmod (↑g2.2 : Int) (60 : Int) /\ Int.tmod (↑g2.2 : Int) (60 : Int) <=
  (100000 : Int))))) /\ (br (decide (List.length (Array.toList (ByteArray.data (sub (ByteArray.mk #[84, 104, 117, 70, 114, 105, 83, 97, 116, 83, 117, 110, 77, 111, 110, 84,
  117, 101, 87, 101, 100]) (Int.toNat (IntKind.wrap IntKind.i64 ((3 : Int) * Int.tmod (↑g2.1 : Int) (7 : Int)))) (Int.toNat (IntKind.wrap IntKind.i64 (IntKind.wrap
  IntKind.i64 ((3 : Int) * Int.tmod (↑g2.1 : Int) (7 : Int)) + (3 : Int)))))) ++ [44, 32] ++ [dgc (Int.toNat (IntKind.wrap IntKind.i64 (IntKind.wrap IntKind.i64 ((↑g2.1 :
  Int) - bfI (↑g2.3 : Int) (↑(moN g2.1) : Int)) + (1 : Int))) / 10), dgc (Int.toNat (IntKind.wrap IntKind.i64 (IntKind.wrap IntKind.i64 ((↑g2.1 : Int) - bfI (↑g2.3 : Int)
  (↑(moN g2.1) : Int)) + (1 : Int))))] ++ [32] ++ Array.toList (ByteArray.data (sub (ByteArray.mk #[74, 97, 110, 70, 101, 98, 77, 97, 114, 65, 112, 114, 77, 97, 121, 74,
  117, 110, 74, 117, 108, 65, 117, 103, 83, 101, 112, 79, 99, 116, 78, 111, 118, 68, 101, 99]) (Int.toNat (IntKind.wrap IntKind.i64 ((3 : Int) * (↑(moN g2.1) : Int))))
  (Int.toNat (IntKind.wrap IntKind.i64 (IntKind.wrap IntKind.i64 ((3 : Int) * (↑(moN g2.1) : Int)) + (3 : Int)))))) ++ [32] ++ [dgc (Int.toNat (↑g2.3 : Int) / 1000), dgc
  (Int.toNat (↑g2.3 : Int) / 100), dgc (Int.toNat (↑g2.3 : Int) / 10), dgc (Int.toNat (↑g2.3 : Int))] ++ [32] ++ [dgc (Int.toNat (IntKind.wrap IntKind.i64 (Int.tdiv (↑g2.2 :
  Int) (3600 : Int))) / 10), dgc (Int.toNat (IntKind.wrap IntKind.i64 (Int.tdiv (↑g2.2 : Int) (3600 : Int))))] ++ [58] ++ [dgc (Int.toNat (Int.tmod (IntKind.wrap IntKind.i64
  (Int.tdiv (↑g2.2 : Int) (60 : Int))) (60 : Int)) / 10), dgc (Int.toNat (Int.tmod (IntKind.wrap IntKind.i64 (Int.tdiv (↑g2.2 : Int) (60 : Int))) (60 : Int)))] ++ [58]) + 2
  <= 9223372036854775807)) (br (decide (List.length (Array.toList (ByteArray.data (sub (ByteArray.mk #[84, 104, 117, 70, 114, 105, 83, 97, 116, 83, 117, 110, 77, 111, 110,
  84, 117, 101, 87, 101, 100]) (Int.toNat (IntKind.wrap IntKind.i64 ((3 : Int) * Int.tmod (↑g2.1 : Int) (7 : Int)))) (Int.toNat (IntKind.wrap IntKind.i64 (IntKind.wrap
  IntKind.i64 ((3 : Int) * Int.tmod (↑g2.1 : Int) (7 : Int)) + (3 : Int)))))) ++ [44, 32] ++ [dgc (Int.toNat (IntKind.wrap IntKind.i64 (IntKind.wrap IntKind.i64 ((↑g2.1 :
  Int) - bfI (↑g2.3 : Int) (↑(moN g2.1) : Int)) + (1 : Int))) / 10), dgc (Int.toNat (IntKind.wrap IntKind.i64 (IntKind.wrap IntKind.i64 ((↑g2.1 : Int) - bfI (↑g2.3 : Int)
  (↑(moN g2.1) : Int)) + (1 : Int))))] ++ [32] ++ Array.toList (ByteArray.data (sub (ByteArray.mk #[74, 97, 110, 70, 101, 98, 77, 97, 114, 65, 112, 114, 77, 97, 121, 74,
  117, 110, 74, 117, 108, 65, 117, 103, 83, 101, 112, 79, 99, 116, 78, 111, 118, 68, 101, 99]) (Int.toNat (IntKind.wrap IntKind.i64 ((3 : Int) * (↑(moN g2.1) : Int))))
  (Int.toNat (IntKind.wrap IntKind.i64 (IntKind.wrap IntKind.i64 ((3 : Int) * (↑(moN g2.1) : Int)) + (3 : Int)))))) ++ [32] ++ [dgc (Int.toNat (↑g2.3 : Int) / 1000), dgc
  (Int.toNat (↑g2.3 : Int) / 100), dgc (Int.toNat (↑g2.3 : Int) / 10), dgc (Int.toNat (↑g2.3 : Int))] ++ [32] ++ [dgc (Int.toNat (IntKind.wrap IntKind.i64 (Int.tdiv (↑g2.2 :
  Int) (3600 : Int))) / 10), dgc (Int.toNat (IntKind.wrap IntKind.i64 (Int.tdiv (↑g2.2 : Int) (3600 : Int))))] ++ [58] ++ [dgc (Int.toNat (Int.tmod (IntKind.wrap IntKind.i64
  (Int.tdiv (↑g2.2 : Int) (60 : Int))) (60 : Int)) / 10), dgc (Int.toNat (Int.tmod (IntKind.wrap IntKind.i64 (Int.tdiv (↑g2.2 : Int) (60 : Int))) (60 : Int)))] ++ [58] ++
  [dgc (Int.toNat (Int.tmod (↑g2.2 : Int) (60 : Int)) / 10), dgc (Int.toNat (Int.tmod (↑g2.2 : Int) (60 : Int)))]) + 4 <= 9223372036854775807)) ((bs v = sub (ByteArray.mk
  #[84, 104, 117, 70, 114, 105, 83, 97, 116, 83, 117, 110, 77, 111, 110, 84, 117, 101, 87, 101, 100]) (Int.toNat (IntKind.wrap IntKind.i64 ((3 : Int) * Int.tmod (↑g2.1 :
  Int) (7 : Int)))) (Int.toNat (IntKind.wrap IntKind.i64 (IntKind.wrap IntKind.i64 ((3 : Int) * Int.tmod (↑g2.1 : Int) (7 : Int)) + (3 : Int)))) ++ ByteArray.mk #[44, 32] ++
  dg2S (IntKind.wrap IntKind.i64 (IntKind.wrap IntKind.i64 ((↑g2.1 : Int) - bfI (↑g2.3 : Int) (↑(moN g2.1) : Int)) + (1 : Int))) ++ ByteArray.mk #[32] ++ sub (ByteArray.mk
  #[74, 97, 110, 70, 101, 98, 77, 97, 114, 65, 112, 114, 77, 97, 121, 74, 117, 110, 74, 117, 108, 65, 117, 103, 83, 101, 112, 79, 99, 116, 78, 111, 118, 68, 101, 99])
  (Int.toNat (IntKind.wrap IntKind.i64 ((3 : Int) * (↑(moN g2.1) : Int)))) (Int.toNat (IntKind.wrap IntKind.i64 (IntKind.wrap IntKind.i64 ((3 : Int) * (↑(moN g2.1) : Int)) +
  (3 : Int)))) ++ ByteArray.mk #[32] ++ dg4S (↑g2.3 : Int) ++ ByteArray.mk #[32] ++ dg2S (IntKind.wrap IntKind.i64 (Int.tdiv (↑g2.2 : Int) (3600 : Int))) ++ ByteArray.mk
  #[58] ++ dg2S (Int.tmod (IntKind.wrap IntKind.i64 (Int.tdiv (↑g2.2 : Int) (60 : Int))) (60 : Int)) ++ ByteArray.mk #[58] ++ dg2S (Int.tmod (↑g2.2 : Int) (60 : Int)) ++
  ByteArray.mk #[32, 71, 77, 84]) /\ True) False) False)) False) False)) False) False)) False) False)) False) False) False) False) False)) False) False))))))))))))))))) := by kernel_rfl
theorem cDs_ok : ∀ f a rows p v news, cDs f a rows = some (p, v, news) → p → Con Try.prog f a rows v (rows ++ news) := by
  intro f a rows p v news h hp
  unfold cDs at h
  split at h <;> simp only [Option.some.injEq, Prod.mk.injEq, reduceCtorEq] at h <;> obtain ⟨rfl, rfl, rfl⟩ := h
  · rename_i y m
    have := ln_con y.toNat m.toNat
    rw [Int.toNat_of_nonneg hp.1, Int.toNat_of_nonneg hp.2] at this
    exact this
  · rename_i y m
    have := bf_con y.toNat m.toNat (by omega) (by omega) (by omega)
    rw [Int.toNat_of_nonneg (by omega), Int.toNat_of_nonneg (by omega)] at this
    exact this
  · rename_i n
    have := dg2_con n.toNat (by omega)
    rw [Int.toNat_of_nonneg (by omega)] at this
    exact this
  · rename_i n
    have := dg4_con n.toNat (by omega)
    rw [Int.toNat_of_nonneg (by omega)] at this
    exact this
  · exact nm_con (L _) hp
  · obtain ⟨rfl, h2⟩ := hp
    exact fd_con (L _) h2
  · exact fm_con (L _) hp
theorem sub_sl (l : List UInt8) (a b : Nat) : sub (bs l) a b = bs (sl l a b) := Eq.trans rfl rfl
theorem L_bsd (l : List UInt8) : L (bs l) = l := Eq.trans rfl rfl
theorem numI_bs (l : List UInt8) : numI (bs l) = (numL l : Nat) := Eq.trans rfl rfl
theorem sl_len (l : List UInt8) (a b : Nat) : (sl l a b).length ≤ b - a := by unfold sl; rw [List.length_take]; omega
theorem bfI_nat (a b : Nat) : bfI (a : Nat) (b : Nat) = (befN a b : Nat) := by unfold bfI; rw [Int.toNat_natCast, Int.toNat_natCast]
theorem bfI_0 (a : Nat) : bfI (a : Nat) 0 = (befN a 0 : Nat) := bfI_nat a 0
theorem lenI_nat (a b : Nat) : lenI (a : Nat) (b : Nat) = (lenN a b : Nat) := by unfold lenI; rw [Int.toNat_natCast, Int.toNat_natCast]
theorem sub_nm (l : List UInt8) (i : Nat) : sub (bs l) (3 * (i : Int)).toNat (3 * (i : Int) + 3).toNat = bs (nm3 l i) := by
  rw [sub_bs, show (3 * (i : Int)).toNat = 3 * i by omega, show (3 * (i : Int) + 3).toNat = 3 * i + 3 by omega, show 3 * i + 3 - 3 * i = 3 by omega]; rfl
theorem nm3_len (l : List UInt8) (i : Nat) : (nm3 l i).length ≤ 3 := by unfold nm3; rw [List.length_take]; omega
theorem wkB : (⟨#[84, 104, 117, 70, 114, 105, 83, 97, 116, 83, 117, 110, 77, 111, 110, 84, 117, 101, 87, 101, 100]⟩ : ByteArray) = bs wkL := rfl
theorem moB_bs : (⟨#[74, 97, 110, 70, 101, 98, 77, 97, 114, 65, 112, 114, 77, 97, 121, 74, 117, 110, 74, 117, 108, 65, 117, 103, 83, 101, 112, 79, 99, 116, 78, 111, 118, 68, 101, 99]⟩ : ByteArray) = bs moL := rfl
set_option maxRecDepth 10000 in
theorem Rd_con (l : List UInt8) (hl : l.length ≤ maxLen) : Con Try.prog 47 [.string (bs l)] [] (.tuple #[.int .i64 ((rdL l).getD 0 : Nat), .bool (rdL l).isSome]) [] := by
  refine con_vc (E := EDs) mixed (calls_envC cDs_ok) (lok_envC _ _ _) (M := noM) lm_none (rd_vc l _ _) ?_
  have hm : maxLen = 9223372036854775807 := by unfold maxLen; rfl
  simp only [ofNat_eq, toNat_cast, Nat.zero_add, Nat.add_zero, Nat.mul_one, List.drop_zero, bCells_len, bCells_drop, bCells_take, bCells_app, bCells_one, bCells_plain, List.length_replicate, List.length_append, List.length_take, List.length_drop, List.take_length, and_true, true_and, and_self, decide_true, List.length_nil, List.length_cons, Nat.sub_zero, dB_mk, dB_ro, List.take_zero, bs_dd]
  have hnone : rdL l = none → ((((rdL l).getD 0 : Nat) : Int) = 0 ∧ (rdL l).isSome = false) := fun h => by rw [h]; exact ⟨rfl, rfl⟩
  refine ⟨by rw [L_bs]; omega, br_intro (fun h => hnone ?_) (fun h => ?_)⟩
  · have e : fmB (bs l) = fmd l := rfl
    have h : fmd l = false := by rw [e] at h; simpa using h
    unfold rdL; rw [if_neg (by simp [h])]
  have e : fmB (bs l) = fmd l := rfl
  have hf : fmd l = true := by rw [e] at h; simpa using h
  have h29 := ((fmd_iff l).1 hf).1
  have hr0 : rdL l = (fndO (sl l 8 11)).bind (rdQ l) := by unfold rdL; rw [if_pos hf]
  have s1 := sl_len l 12 16
  have s2 := sl_len l 8 11
  have s3 := sl_len l 5 7
  have s4 := sl_len l 17 19
  have s5 := sl_len l 20 22
  have s6 := sl_len l 23 25
  have s7 : sub (bs l) 0 3 = bs (sl l 0 3) := sub_sl _ _ _
  simp only [sub_sl, numI_bs, L_bsd, wkB, moB_bs]
  simp (disch := omega) only [brT]
  have hQ : ∀ m, rdQ l m = (if numL (sl l 12 16) < 1970 ∨ 2037 < numL (sl l 12 16) then none
    else if numL (sl l 5 7) < 1 ∨ lenN (numL (sl l 12 16)) m < numL (sl l 5 7) then none
    else if 23 < numL (sl l 17 19) ∨ 59 < numL (sl l 20 22) ∨ 59 < numL (sl l 23 25) then none
    else if nm3 wkL (dayOf (numL (sl l 12 16)) m (numL (sl l 5 7)) % 7) ≠ sl l 0 3 then none
    else some (dayOf (numL (sl l 12 16)) m (numL (sl l 5 7)) * 86400 + (numL (sl l 17 19) * 60 + numL (sl l 20 22)) * 60 + numL (sl l 23 25))) := fun m => rfl
  generalize numL (sl l 12 16) = y at *
  generalize numL (sl l 5 7) = d at *
  generalize numL (sl l 17 19) = hh at *
  generalize numL (sl l 20 22) = mi at *
  generalize numL (sl l 23 25) = ss at *
  refine ⟨by omega, ⟨rfl, by omega⟩, ?_⟩
  cases hfn : fndO (sl l 8 11) with
  | none =>
    have hfi : fnI (bs (sl l 8 11)) = -1 := by unfold fnI; rw [L_bs, hfn]
    have hn : rdL l = none := by rw [hr0, hfn]; rfl
    rw [hfi]
    exact br_if (fun _ => hnone hn) (fun _ => br_if (fun _ => hnone hn) (fun _ => br_dec (by omega) (hnone hn)))
  | some m =>
    have hfi : fnI (bs (sl l 8 11)) = (m : Nat) := by unfold fnI; rw [L_bs, hfn]
    obtain ⟨m1, _⟩ := fnd_some hfn
    rw [hfn, Option.bind_some, hQ] at hr0
    simp only [hfi, lenI_nat, bfI_nat]
    have hl := len_le y m
    refine br_if (fun a => hnone (by rw [hr0, if_pos (by omega)])) (fun a => br_if (fun b => hnone (by rw [hr0, if_pos (by omega)])) (fun b => br_nd (by omega) ⟨by omega, ?_⟩))
    rw [if_neg (by omega)] at hr0
    refine br_if (fun c => hnone (by rw [hr0, if_pos (by omega)])) (fun c => ⟨⟨by omega, by omega⟩, br_if (fun e => hnone (by rw [hr0, if_pos (by omega)])) (fun e => ⟨by omega, by omega, by omega, ?_⟩)⟩)
    rw [if_neg (by omega)] at hr0
    refine br_if (fun f => hnone (by rw [hr0, if_pos (by omega)])) (fun f => br_if (fun f2 => hnone (by rw [hr0, if_pos (by omega)])) (fun f2 => br_if (fun f3 => hnone (by rw [hr0, if_pos (by omega)])) (fun f3 => ⟨⟨by omega, by omega, by omega, by omega⟩, ?_⟩)))
    rw [if_neg (by omega)] at hr0
    have hb : befN y m ≤ 100000 := by have := cum_le y m (by omega); unfold befN; omega
    have hD : IntKind.i64.wrap (IntKind.i64.wrap ((befN y m : Nat) + (d : Nat) : Int) - 1) = ((dayOf y m d : Nat) : Int) := by
      rw [wr64_id (n := ((befN y m : Nat) + (d : Nat) : Int)) (by unfold I64; omega), wr64_id (by unfold I64; omega)]; unfold dayOf; omega
    have hD2 : dayOf y m d ≤ 200000 := by unfold dayOf; omega
    rw [hD]
    generalize dayOf y m d = D at *
    have q7 : (D : Int).tmod 7 = ((D % 7 : Nat) : Int) := by rw [Int.tmod_eq_emod_of_nonneg (by omega)]; omega
    rw [q7, wr64_id (n := 3 * ((D % 7 : Nat) : Int)) (by unfold I64; omega), wr64_id (n := 3 * ((D % 7 : Nat) : Int) + 3) (by unfold I64; omega)]
    rw [show bs (sl wkL (3 * ((D % 7 : Nat) : Int)).toNat (3 * ((D % 7 : Nat) : Int) + 3).toNat) = bs (nm3 wkL (D % 7)) from sub_nm wkL (D % 7)]
    rw [strEq_bs]
    refine br_dec (by omega) (br_intro (fun g => hnone ?_) (fun g => ?_))
    · have g : nm3 wkL (D % 7) ≠ sl l 0 3 := by simpa using g
      rw [hr0, if_pos g]
    · have g : nm3 wkL (D % 7) = sl l 0 3 := by simpa using g
      rw [if_neg (by simp [g])] at hr0
      rw [hr0]
      refine ⟨?_, rfl⟩
      rw [wr64_id (n := (D : Int) * 86400) (by unfold I64; omega), wr64_id (n := (hh : Int) * 60) (by unfold I64; omega), wr64_id (n := (hh : Int) * 60 + mi) (by unfold I64; omega), wr64_id (n := ((hh : Int) * 60 + mi) * 60) (by unfold I64; omega), wr64_id (n := (D : Int) * 86400 + ((hh : Int) * 60 + mi) * 60) (by unfold I64; omega), wr64_id (by unfold I64; omega)]
      simp only [Option.getD_some]; omega
theorem Sy_piece : PieceOk EDs 0 (20, pSy, specSy) := by
  refine piece_loop mixed (calls_envC cDs_ok) (lok_envC _ _ _) lm_none (n := 60) (by kernel_rfl) (fun _ => (1970 : Nat)) (fun g y => 1970 ≤ y ∧ y ≤ 2100 ∧ befN y 0 ≤ g.d) (fun g y => 3000 - y) (sl := slSy) (rl := fun _ _ => []) (fun g hg => ⟨Nat.le_refl _, by omega, by simp [befN, cumN]⟩) (fun g y hg hi => ?_)
  refine (sy_round g y _ _).mpr ?_
  obtain ⟨h1, h2, h3⟩ := hi
  simp only [ofNat_eq, toNat_cast, Nat.zero_add, Nat.add_zero, Nat.mul_one, List.drop_zero, bCells_len, bCells_drop, bCells_take, bCells_app, bCells_one, bCells_plain, List.length_replicate, List.length_append, List.length_take, List.length_drop, List.take_length, and_true, true_and, and_self, decide_true, List.length_nil, List.length_cons, Nat.sub_zero, dB_mk, dB_ro, List.take_zero]
  have w := i64_succ (show y < 9223372036854775807 by omega)
  rw [w, bfI_0]
  refine ⟨by omega, br_if (fun h => ?_) (fun h => ⟨(), ?_⟩)⟩
  · refine ⟨y + 1, ⟨by omega, ?_, by omega⟩, by omega, rfl⟩
    have h : befN (y + 1) 0 ≤ g.d := by omega
    unfold befN at h; omega
  · rw [← bef_year y g.d h1 h3 (by omega)]
theorem Sm_piece : PieceOk EDs 0 (20, pSm, specSm) := by
  refine piece_loop mixed (calls_envC cDs_ok) (lok_envC _ _ _) lm_none (n := 60) (by kernel_rfl) (fun _ => (0 : Nat)) (fun g m => m ≤ 11 ∧ befN g.y m ≤ g.d) (fun g m => 12 - m) (sl := slSm) (rl := fun _ _ => []) (fun g hg => ⟨by omega, by rw [hg.2]; exact (year_bef g.d).1⟩) (fun g m hg hi => ?_)
  refine (sm_round g m _ _).mpr ?_
  obtain ⟨h1, h2⟩ := hi
  obtain ⟨g1, g2⟩ := hg
  simp only [ofNat_eq, toNat_cast, Nat.zero_add, Nat.add_zero, Nat.mul_one, List.drop_zero, bCells_len, bCells_drop, bCells_take, bCells_app, bCells_one, bCells_plain, List.length_replicate, List.length_append, List.length_take, List.length_drop, List.take_length, and_true, true_and, and_self, decide_true, List.length_nil, List.length_cons, Nat.sub_zero, dB_mk, dB_ro, List.take_zero]
  have w := i64_succ (show m < 9223372036854775807 by omega)
  rw [w, bfI_nat]
  obtain ⟨k1, k2, k3⟩ := mo_spec g.d
  obtain ⟨y1, y2, y3⟩ := year_bef g.d
  rw [← g2] at k2 k3 y1 y2 y3
  have hy : g.y ≤ 3000 := by rw [g2]; unfold yrN; omega
  generalize moN g.d = M at *
  refine br_if (fun h => ⟨by omega, br_if (fun h' => ⟨m + 1, ⟨by omega, by omega⟩, by omega, rfl⟩) (fun h' => ⟨(), ?_⟩)⟩) (fun h => ⟨(), ?_⟩)
  · rw [mo_uniq g.y g.d m M h2 (by omega) k2 k3]
  · have e : m = 11 := by omega
    subst e
    rw [mo_uniq g.y g.d 11 M h2 (by rw [bef12 _ y3]; exact y2) k2 k3]
theorem Sh_con2 (n : Int) : Con Try.prog 20 [.int .i64 n] [] (.string (shS n)) [] := by
  unfold shS
  refine con_vc (E := EDs) mixed (calls_envC cDs_ok) (lok_envC _ _ _) (M := mSh) (lm_two Sy_piece Sm_piece) (sh_vc n _) ?_
  simp only [ofNat_eq, toNat_cast, Nat.zero_add, Nat.add_zero, Nat.mul_one, List.drop_zero, bCells_len, bCells_drop, bCells_take, bCells_app, bCells_one, bCells_plain, List.length_replicate, List.length_append, List.length_take, List.length_drop, List.take_length, and_true, true_and, and_self, decide_true, List.length_nil, List.length_cons, Nat.sub_zero, dB_mk, dB_ro, List.take_zero]
  obtain ⟨k, hk⟩ : ∃ k, k = shN n := ⟨_, rfl⟩
  have hk2 : k ≤ 2147483647 := by rw [hk]; unfold shN; omega
  have hn : (if 2147483647 < if 0 > n then 0 else n then 2147483647 else if 0 > n then 0 else n) = (k : Int) := by
    rw [hk]; unfold shN
    obtain ⟨B, hB⟩ : ∃ B : Int, B = 2147483647 := ⟨_, rfl⟩
    rw [← hB]
    have : 0 ≤ B := by omega
    clear hB hk2
    rw [Int.toNat_of_nonneg (by omega)]
    split <;> split <;> omega
  rw [← hk]
  simp only [hn]
  have q1 : IntKind.i64.wrap ((k : Int).tdiv 86400) = ((k / 86400 : Nat) : Int) := by rw [Int.tdiv_eq_ediv_of_nonneg (by omega), wr64_id (by unfold I64; omega)]; omega
  have q2 : (k : Int).tmod 86400 = ((k % 86400 : Nat) : Int) := by rw [Int.tmod_eq_emod_of_nonneg (by omega)]; omega
  rw [q1, q2]
  unfold shL
  obtain ⟨d, hd⟩ : ∃ d, d = k / 86400 := ⟨_, rfl⟩
  obtain ⟨r, hr⟩ : ∃ r, r = k % 86400 := ⟨_, rfl⟩
  have hd2 : d ≤ 30000 := by omega
  have hr2 : r < 86400 := by omega
  rw [← hd, ← hr]
  clear hd hr hn q1 q2 hk
  refine ⟨⟨d, r, 0⟩, hd2, rfl, rfl, fun _ _ => ⟨⟨d, r, yrN d⟩, ⟨hd2, rfl⟩, rfl, rfl, rfl, fun _ _ => ?_⟩⟩
  simp only
  obtain ⟨y1, y2, y3⟩ := year_bef d
  obtain ⟨p1, p2, p3⟩ := mo_spec d
  have hy : yrN d ≤ 2100 := by unfold yrN; omega
  have hsh : shP d r = nm3 wkL (d % 7) ++ [44, 32] ++ dg2 (d - befN (yrN d) (moN d) + 1) ++ [32] ++ nm3 moL (moN d) ++ [32] ++ dg4 (yrN d) ++ [32] ++ dg2 (r / 3600) ++ [58] ++ dg2 (r / 60 % 60) ++ [58] ++ dg2 (r % 60) ++ [32, 71, 77, 84] := rfl
  generalize yrN d = y at *
  generalize moN d = m at *
  rw [hsh]
  have n1 := nm3_len wkL (d % 7)
  have n2 := nm3_len moL m
  have q7 : (d : Int).tmod 7 = ((d % 7 : Nat) : Int) := by rw [Int.tmod_eq_emod_of_nonneg (by omega)]; omega
  have wd : IntKind.i64.wrap (IntKind.i64.wrap ((d : Int) - ((befN y m : Nat) : Int)) + 1) = ((d - befN y m + 1 : Nat) : Int) := by
    rw [wr64_id (n := (d : Int) - ((befN y m : Nat) : Int)) (by unfold I64; omega), wr64_id (by unfold I64; omega)]; omega
  have w7 : IntKind.i64.wrap (3 * ((d % 7 : Nat) : Int)) = 3 * ((d % 7 : Nat) : Int) := wr64_id (by unfold I64; omega)
  have w73 : IntKind.i64.wrap (3 * ((d % 7 : Nat) : Int) + 3) = 3 * ((d % 7 : Nat) : Int) + 3 := wr64_id (by unfold I64; omega)
  have wm : IntKind.i64.wrap (3 * (m : Int)) = 3 * (m : Int) := wr64_id (by unfold I64; omega)
  have wm3 : IntKind.i64.wrap (3 * (m : Int) + 3) = 3 * (m : Int) + 3 := wr64_id (by unfold I64; omega)
  have r1 : IntKind.i64.wrap ((r : Int).tdiv 3600) = ((r / 3600 : Nat) : Int) := by rw [Int.tdiv_eq_ediv_of_nonneg (by omega), wr64_id (by unfold I64; omega)]; omega
  have r2 : IntKind.i64.wrap ((r : Int).tdiv 60) = ((r / 60 : Nat) : Int) := by rw [Int.tdiv_eq_ediv_of_nonneg (by omega), wr64_id (by unfold I64; omega)]; omega
  have r3 : ∀ a : Nat, (a : Int).tmod 60 = ((a % 60 : Nat) : Int) := fun a => by rw [Int.tmod_eq_emod_of_nonneg (by omega)]; omega
  have d2 : ∀ a : Nat, dg2S (a : Int) = bs (dg2 a) := fun a => by unfold dg2S; rw [Int.toNat_natCast]
  have d4 : ∀ a : Nat, dg4S (a : Int) = bs (dg4 a) := fun a => by unfold dg4S; rw [Int.toNat_natCast]
  have l2 : ∀ a : Nat, (dg2 a).length = 2 := fun a => Eq.trans rfl rfl
  have l4 : ∀ a : Nat, (dg4 a).length = 4 := fun a => Eq.trans rfl rfl
  have e1 : sub (bs wkL) (3 * ((d % 7 : Nat) : Int)).toNat (3 * ((d % 7 : Nat) : Int) + 3).toNat = bs (nm3 wkL (d % 7)) := sub_nm _ _
  have e2 : sub (bs moL) (3 * (m : Int)).toNat (3 * (m : Int) + 3).toNat = bs (nm3 moL m) := sub_nm _ _
  simp only [q7, bfI_nat, wd, w7, w73, wm, wm3, r1, r2, r3, d2, d4, wkB, moB_bs, e1, e2, bs_dd, l2, l4]
  simp (disch := omega) only [brT]
  refine ⟨by omega, by omega, by omega, by omega, by omega, by omega, ?_⟩
  rw [show (⟨#[44, 32]⟩ : ByteArray) = bs [44, 32] from rfl, show (⟨#[32]⟩ : ByteArray) = bs [32] from rfl, show (⟨#[58]⟩ : ByteArray) = bs [58] from rfl, show (⟨#[32, 71, 77, 84]⟩ : ByteArray) = bs [32, 71, 77, 84] from rfl]
  simp only [bs_app]
end Go.Proofs.Ytideeogedleabaa.tk
