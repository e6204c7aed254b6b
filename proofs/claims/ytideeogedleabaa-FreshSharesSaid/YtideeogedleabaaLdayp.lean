/- The program's helpers for dates. -/
import Derived.Test.YtideeogedleabaaSz9
import Derived.Test.YtideeogedleabaaRows
import Derived.Test.YtideeogedleabaaLdayd
import Derived.Test.YtideeogedleabaaLbrt
set_option maxRecDepth 20000
set_option linter.unusedSimpArgs false
set_option linter.unusedVariables false
namespace Go.Proofs.Ytideeogedleabaa.tk
open Go Go.Ev Go.Sy Go.RowKit Go.Proofs.Ytideeogedleabaa.gl
def lenI (y m : Int) : Int := (lenN y.toNat m.toNat : Nat)
def bfI (y m : Int) : Int := (befN y.toNat m.toNat : Nat)
def numI (s : ByteArray) : Int := (numL (L s) : Nat)
def fnI (s : ByteArray) : Int := match fndO (L s) with
  | some i => (i : Nat)
  | none => -1
def fmB (s : ByteArray) : Bool := fmd (L s)
def cBf : FuncId → List Value → List Row → Option (Prop × Value × List Row)
  | 55, [.int .i64 y, .int .i64 m], [] => some (0 ≤ y ∧ 0 ≤ m, .int .i64 (lenI y m), [])
  | _, _, _ => none
noncomputable abbrev EBf : Env := envC Try.prog cBf (fun f => Nat.beq f 55)
structure GBf where
  y : Nat
  m : Nat
def pBf : List Nat := [0, 1, 0, 1, 1]
def slBf (g : GBf) (i : Nat) : List (Nat × Value) := [(0, .int .i64 (g.y : Nat)), (5, .int .i64 (befN g.y i : Nat)), (15, .int .i64 (g.m : Nat)), (16, .int .i64 (i : Nat))]
def wsBf (g : GBf) : List (Gate Unit) := [⟨.exit 0, fun _ => True, fun _ => [(5, .int .i64 (befN g.y g.m : Nat))], fun _ => [], 0⟩]
def specBf : Sy.Spec := specOf 0 0 26 (fun g : GBf => 1970 ≤ g.y ∧ g.y ≤ 3000 ∧ g.m ≤ 12) (fun g => slBf g 0) (fun _ => []) wsBf
def mBf := mOf [(41, pBf, specBf)]
structure StNm where
  n : Nat
  i : Nat
def pNm : List Nat := [0, 1, 0, 1, 1]
def slNm (l : List UInt8) (s : StNm) : List (Nat × Value) := [(0, .string (bs l)), (3, .int .i64 (s.n : Nat)), (6, .int .i64 (l.length : Nat)), (7, .int .i64 (s.i : Nat))]
def wsNm (l : List UInt8) : List (Gate Unit) := [⟨.exit 0, fun _ => True, fun _ => [(3, .int .i64 (numL l : Nat))], fun _ => [], 0⟩]
def specNm : Sy.Spec := specOf 0 0 20 (fun l : List UInt8 => l.length ≤ 6) (fun l => slNm l ⟨0, 0⟩) (fun _ => []) wsNm
def mNm := mOf [(60, pNm, specNm)]
def pFd : List Nat := [0, 1, 0, 1]
def slFd (s : List UInt8) (i : Nat) : List (Nat × Value) := [(0, .string (bs moL)), (1, .string (bs s)), (8, .int .i64 12), (9, .int .i64 (i : Nat))]
def wsFd (s : List UInt8) : List (Gate Nat) := [⟨.exit 0, fun _ => fndO s = none, fun _ => [], fun _ => [], 0⟩, ⟨.ret, fun i => fndO s = some i, fun i => [(4, .int .i64 (i : Nat))], fun _ => [], 0⟩]
def specFd : Sy.Spec := specOf 0 0 19 (fun _ : List UInt8 => True) (fun s => slFd s 0) (fun _ => []) wsFd
def mFd := mOf [(61, pFd, specFd)]
def pFm : List Nat := [0, 1, 0, 1, 1]
def slFm (l : List UInt8) (i : Nat) : List (Nat × Value) := [(0, .string (bs l)), (8, .int .i64 29), (9, .int .i64 (i : Nat))]
def wsFm (l : List UInt8) : List (Gate Unit) := [⟨.exit 0, fun _ => fmd l = true, fun _ => [], fun _ => [], 0⟩, ⟨.ret, fun _ => fmd l = false, fun _ => [(2, .bool false)], fun _ => [], 0⟩]
def specFm : Sy.Spec := specOf 0 0 35 (fun l : List UInt8 => l.length = 29) (fun l => slFm l 0) (fun _ => []) wsFm
def mFm := mOf [(59, pFm, specFm)]
theorem ln_vc (y m : Nat) (v : Int) : mcall E0 noM 60 55 [.int .i64 (y : Nat), .int .i64 (m : Nat)] ⟨mkR (nums 0 []), 0⟩ (retIs 0 (.int .i64 v) []) =
  (br ((↑m : Int) == (1 : Int)) (br (Int.tmod (↑y : Int) (4 : Int) == (0 : Int)) ((v = (29 : Int)) /\ True) ((v = (28 : Int)) /\ True)) (br ((↑m : Int) == (3 : Int)) ((v =
  (30 : Int)) /\ True) (br ((↑m : Int) == (5 : Int)) ((v = (30 : Int)) /\ True) (br ((↑m : Int) == (8 : Int)) ((v = (30 : Int)) /\ True) (br ((↑m : Int) == (10 : Int)) ((v =
  (30 : Int)) /\ True) ((v = (31 : Int)) /\ True)))))) := by kernel_rfl
theorem bf_round (g : GBf) (i : Nat) (Inv : Nat → Prop) (m : Nat → Nat) : mev EBf noM 60 41 (0 :: pBf) false (codeOf Try.prog 41 (0 :: pBf)) ⟨mkOv (slBf g i), 26, []⟩ none ⟨mkR [], 0⟩ (roundK 0 0 26 Inv m (slBf g) (fun _ => []) (wsBf g) i) =
  (br (decide ((↑i : Int) < (↑g.2 : Int))) ((((True /\ (True /\ True)) /\ (True /\ ((0 : Int) <= (↑g.1 : Int) /\ (0 : Int) <= (↑i : Int))))) /\ (∃ j : Nat, ((Inv j) /\ ((m j
  < m i) /\ (((↑g.1 : Int) = (↑g.1 : Int)) /\ (((↑(befN g.1 j) : Int) = IntKind.wrap IntKind.i64 ((↑(befN g.1 i) : Int) + lenI (↑g.1 : Int) (↑i : Int))) /\ (((↑g.2 : Int) =
  (↑g.2 : Int)) /\ (((↑j : Int) = IntKind.wrap IntKind.i64 ((↑i : Int) + (1 : Int))) /\ True)))))))) (∃ y : Unit, ((True) /\ (((↑(befN g.1 g.2) : Int) = (↑(befN g.1 i) :
  Int)) /\ True)))) := by kernel_rfl
theorem bf_vc (y m : Nat) (v : Int) : mcall EBf mBf 60 41 [.int .i64 (y : Nat), .int .i64 (m : Nat)] ⟨mkR (nums 0 []), 0⟩ (retIs 0 (.int .i64 v) []) =
  (∃ g : GBf, ((1970 <= g.1 /\ g.1 <= 3000 /\ g.2 <= 12) /\ (((↑g.1 : Int) = (↑y : Int)) /\ (((↑(befN g.1 0) : Int) = IntKind.wrap IntKind.i64 (IntKind.wrap IntKind.i64
  (IntKind.wrap IntKind.i64 ((↑y : Int) - (1970 : Int)) * (365 : Int)) + IntKind.wrap IntKind.i64 (Int.tdiv (IntKind.wrap IntKind.i64 (IntKind.wrap IntKind.i64 ((↑y : Int) -
  (1970 : Int)) + (1 : Int))) (4 : Int)))) /\ (((↑g.2 : Int) = (↑m : Int)) /\ (((0 : Int) = (0 : Int)) /\ (∀ (y2 : Unit), ((True) → ((v = (↑(befN g.1 g.2) : Int)) /\
  True))))))))) := by kernel_rfl
theorem dg2_vc (n : Nat) (v : List UInt8) : mcall E0 noM 60 43 [.int .i64 (n : Nat), .int .i64 2] ⟨mkR (nums 0 []), 0⟩ (retIs 0 (.string (bs v)) []) =
  ((AllB [Value.int IntKind.u8 (IntKind.wrap IntKind.u8 (IntKind.wrap IntKind.i64 ((48 : Int) + Int.tmod (IntKind.wrap IntKind.i64 (Int.tdiv (↑n : Int) (10 : Int))) (10 :
  Int)))), Value.int IntKind.u8 (IntKind.wrap IntKind.u8 (IntKind.wrap IntKind.i64 ((48 : Int) + Int.tmod (↑n : Int) (10 : Int))))]) /\ ((bs v = ByteArray.mk (Array.mk [bOf
  (Value.int IntKind.u8 (IntKind.wrap IntKind.u8 (IntKind.wrap IntKind.i64 ((48 : Int) + Int.tmod (IntKind.wrap IntKind.i64 (Int.tdiv (↑n : Int) (10 : Int))) (10 : Int))))),
  bOf (Value.int IntKind.u8 (IntKind.wrap IntKind.u8 (IntKind.wrap IntKind.i64 ((48 : Int) + Int.tmod (↑n : Int) (10 : Int)))))])) /\ True)) := by kernel_rfl
theorem dg4_vc (n : Nat) (v : List UInt8) : mcall E0 noM 60 43 [.int .i64 (n : Nat), .int .i64 4] ⟨mkR (nums 0 []), 0⟩ (retIs 0 (.string (bs v)) []) =
  ((AllB [Value.int IntKind.u8 (IntKind.wrap IntKind.u8 (IntKind.wrap IntKind.i64 ((48 : Int) + Int.tmod (IntKind.wrap IntKind.i64 (Int.tdiv (IntKind.wrap IntKind.i64
  (Int.tdiv (IntKind.wrap IntKind.i64 (Int.tdiv (↑n : Int) (10 : Int))) (10 : Int))) (10 : Int))) (10 : Int)))), Value.int IntKind.u8 (IntKind.wrap IntKind.u8 (IntKind.wrap
  IntKind.i64 ((48 : Int) + Int.tmod (IntKind.wrap IntKind.i64 (Int.tdiv (IntKind.wrap IntKind.i64 (Int.tdiv (↑n : Int) (10 : Int))) (10 : Int))) (10 : Int)))), Value.int
  IntKind.u8 (IntKind.wrap IntKind.u8 (IntKind.wrap IntKind.i64 ((48 : Int) + Int.tmod (IntKind.wrap IntKind.i64 (Int.tdiv (↑n : Int) (10 : Int))) (10 : Int)))), Value.int
  IntKind.u8 (IntKind.wrap IntKind.u8 (IntKind.wrap IntKind.i64 ((48 : Int) + Int.tmod (↑n : Int) (10 : Int))))]) /\ ((bs v = ByteArray.mk (Array.mk [bOf (Value.int
  IntKind.u8 (IntKind.wrap IntKind.u8 (IntKind.wrap IntKind.i64 ((48 : Int) + Int.tmod (IntKind.wrap IntKind.i64 (Int.tdiv (IntKind.wrap IntKind.i64 (Int.tdiv (IntKind.wrap
  IntKind.i64 (Int.tdiv (↑n : Int) (10 : Int))) (10 : Int))) (10 : Int))) (10 : Int))))), bOf (Value.int IntKind.u8 (IntKind.wrap IntKind.u8 (IntKind.wrap IntKind.i64 ((48 :
  Int) + Int.tmod (IntKind.wrap IntKind.i64 (Int.tdiv (IntKind.wrap IntKind.i64 (Int.tdiv (↑n : Int) (10 : Int))) (10 : Int))) (10 : Int))))), bOf (Value.int IntKind.u8
  (IntKind.wrap IntKind.u8 (IntKind.wrap IntKind.i64 ((48 : Int) + Int.tmod (IntKind.wrap IntKind.i64 (Int.tdiv (↑n : Int) (10 : Int))) (10 : Int))))), bOf (Value.int
  IntKind.u8 (IntKind.wrap IntKind.u8 (IntKind.wrap IntKind.i64 ((48 : Int) + Int.tmod (↑n : Int) (10 : Int)))))])) /\ True)) := by kernel_rfl
theorem nm_round (l : List UInt8) (s : StNm) (Inv : StNm → Prop) (m : StNm → Nat) : mev E0 noM 60 60 (0 :: pNm) false (codeOf Try.prog 60 (0 :: pNm)) ⟨mkOv (slNm l s), 20, []⟩ none ⟨mkR [], 0⟩ (roundK 0 0 20 Inv m (slNm l) (fun _ => []) (wsNm l) s) =
  (br (decide ((↑s.2 : Int) < (↑(List.length l) : Int))) (br (decide ((0 : Int) <= (↑s.2 : Int) /\ (↑s.2 : Int) < (↑(List.length (Array.toList (ByteArray.data (bs l)))) :
  Int))) (∃ j : StNm, ((Inv j) /\ ((m j < m s) /\ ((bs l = bs l) /\ (((↑j.1 : Int) = IntKind.wrap IntKind.i64 (IntKind.wrap IntKind.i64 ((↑s.1 : Int) * (10 : Int)) +
  IntKind.wrap IntKind.i64 (IntKind.wrap IntKind.u8 (byteAt (bs l) (Int.toNat (↑s.2 : Int)) - (48 : Int))))) /\ (((↑(List.length l) : Int) = (↑(List.length l) : Int)) /\
  (((↑j.2 : Int) = IntKind.wrap IntKind.i64 ((↑s.2 : Int) + (1 : Int))) /\ True))))))) False) (∃ y : Unit, ((True) /\ (((↑(numL l) : Int) = (↑s.1 : Int)) /\ True)))) := by kernel_rfl
theorem nm_vc (l : List UInt8) (v : Int) : mcall E0 mNm 60 60 [.string (bs l)] ⟨mkR (nums 0 []), 0⟩ (retIs 0 (.int .i64 v) []) =
  (∃ g : List UInt8, ((List.length g <= 6) /\ ((bs g = bs l) /\ (((0 : Int) = (0 : Int)) /\ (((↑(List.length g) : Int) = Int.ofNat (List.length (Array.toList (ByteArray.data
  (bs l))))) /\ (((0 : Int) = (0 : Int)) /\ (∀ (y : Unit), ((True) → ((v = (↑(numL g) : Int)) /\ True))))))))) := by kernel_rfl
theorem fd_round (s : List UInt8) (i : Nat) (Inv : Nat → Prop) (m : Nat → Nat) : mev E0 noM 60 61 (0 :: pFd) false (codeOf Try.prog 61 (0 :: pFd)) ⟨mkOv (slFd s i), 19, []⟩ none ⟨mkR [], 0⟩ (roundK 0 0 19 Inv m (slFd s) (fun _ => []) (wsFd s) i) =
  (br (decide ((↑i : Int) < (12 : Int))) (br (decide ((0 : Int) <= IntKind.wrap IntKind.i64 ((3 : Int) * (↑i : Int)) /\ IntKind.wrap IntKind.i64 ((3 : Int) * (↑i : Int)) <=
  IntKind.wrap IntKind.i64 (IntKind.wrap IntKind.i64 ((3 : Int) * (↑i : Int)) + (3 : Int)) /\ IntKind.wrap IntKind.i64 (IntKind.wrap IntKind.i64 ((3 : Int) * (↑i : Int)) +
  (3 : Int)) <= (36 : Int))) (br (strEq (sub (bs moL) (Int.toNat (IntKind.wrap IntKind.i64 ((3 : Int) * (↑i : Int)))) (Int.toNat (IntKind.wrap IntKind.i64 (IntKind.wrap
  IntKind.i64 ((3 : Int) * (↑i : Int)) + (3 : Int))))) (bs s)) (∃ y : Nat, ((Eq (α := Option Nat) (fndO s) (some y)) /\ (((↑y : Int) = (↑i : Int)) /\ True))) (∃ j : Nat,
  ((Inv j) /\ ((m j < m i) /\ ((bs moL = bs moL) /\ ((bs s = bs s) /\ (((12 : Int) = (12 : Int)) /\ (((↑j : Int) = IntKind.wrap IntKind.i64 ((↑i : Int) + (1 : Int))) /\
  True)))))))) False) (∃ y : Nat, ((Eq (α := Option Nat) (fndO s) (none)) /\ True))) := by kernel_rfl
theorem fd_vc (s : List UInt8) (v : Int) : mcall E0 mFd 60 61 [.string (bs moL), .string (bs s)] ⟨mkR (nums 0 []), 0⟩ (retIs 0 (.int .i64 v) []) =
  (∃ g : List UInt8, ((True) /\ ((bs moL = bs moL) /\ ((bs g = bs s) /\ (((12 : Int) = (12 : Int)) /\ (((0 : Int) = (0 : Int)) /\ (∀ (side : Bool), (br (side) (∀ (y : Nat),
  ((fndO g = none) → ((v = (-1 : Int)) /\ True))) (∀ (y : Nat), ((fndO g = some y) → ((v = (↑y : Int)) /\ True))))))))))) := by kernel_rfl
theorem fm_round (l : List UInt8) (i : Nat) (Inv : Nat → Prop) (m : Nat → Nat) : mev E0 noM 60 59 (0 :: pFm) false (codeOf Try.prog 59 (0 :: pFm)) ⟨mkOv (slFm l i), 35, []⟩ none ⟨mkR [], 0⟩ (roundK 0 0 35 Inv m (slFm l) (fun _ => []) (wsFm l) i) =
  (br (decide ((↑i : Int) < (29 : Int))) (br (decide ((0 : Int) <= (↑i : Int) /\ (↑i : Int) < (29 : Int))) (br (byteAt (ByteArray.mk #[95, 95, 95, 44, 32, 48, 48, 32, 95,
  95, 95, 32, 48, 48, 48, 48, 32, 48, 48, 58, 48, 48, 58, 48, 48, 32, 71, 77, 84]) (Int.toNat (↑i : Int)) == (95 : Int)) (∃ j : Nat, ((Inv j) /\ ((m j < m i) /\ ((bs l = bs
  l) /\ (((29 : Int) = (29 : Int)) /\ (((↑j : Int) = IntKind.wrap IntKind.i64 ((↑i : Int) + (1 : Int))) /\ True)))))) (br (byteAt (ByteArray.mk #[95, 95, 95, 44, 32, 48, 48,
  32, 95, 95, 95, 32, 48, 48, 48, 48, 32, 48, 48, 58, 48, 48, 58, 48, 48, 32, 71, 77, 84]) (Int.toNat (↑i : Int)) == (48 : Int)) (br (decide ((0 : Int) <= (↑i : Int) /\ (↑i
  : Int) < (↑(List.length (Array.toList (ByteArray.data (bs l)))) : Int))) (br (decide (byteAt (bs l) (Int.toNat (↑i : Int)) < (48 : Int))) (∃ y : Unit, ((fmd l = false) /\
  ((false = false) /\ True))) (br (decide ((0 : Int) <= (↑i : Int) /\ (↑i : Int) < (↑(List.length (Array.toList (ByteArray.data (bs l)))) : Int))) (br (decide (byteAt (bs l)
  (Int.toNat (↑i : Int)) > (57 : Int))) (∃ y : Unit, ((fmd l = false) /\ ((false = false) /\ True))) (∃ j : Nat, ((Inv j) /\ ((m j < m i) /\ ((bs l = bs l) /\ (((29 : Int) =
  (29 : Int)) /\ (((↑j : Int) = IntKind.wrap IntKind.i64 ((↑i : Int) + (1 : Int))) /\ True))))))) False)) False) (br (decide ((0 : Int) <= (↑i : Int) /\ (↑i : Int) <
  (↑(List.length (Array.toList (ByteArray.data (bs l)))) : Int))) (br (decide ((0 : Int) <= (↑i : Int) /\ (↑i : Int) < (29 : Int))) (br (byteAt (bs l) (Int.toNat (↑i : Int))
  != byteAt (ByteArray.mk #[95, 95, 95, 44, 32, 48, 48, 32, 95, 95, 95, 32, 48, 48, 48, 48, 32, 48, 48, 58, 48, 48, 58, 48, 48, 32, 71, 77, 84]) (Int.toNat (↑i : Int))) (∃ y
  : Unit, ((fmd l = false) /\ ((false = false) /\ True))) (∃ j : Nat, ((Inv j) /\ ((m j < m i) /\ ((bs l = bs l) /\ (((29 : Int) = (29 : Int)) /\ (((↑j : Int) = IntKind.wrap
  IntKind.i64 ((↑i : Int) + (1 : Int))) /\ True))))))) False) False))) False) (∃ y : Unit, ((fmd l = true) /\ True))) := by kernel_rfl
theorem fm_vc (l : List UInt8) (v : Bool) : mcall E0 mFm 60 59 [.string (bs l)] ⟨mkR (nums 0 []), 0⟩ (retIs 0 (.bool v) []) =
  (br (Int.ofNat (List.length (Array.toList (ByteArray.data (bs l)))) != (29 : Int)) ((v = false) /\ True) (∃ g : List UInt8, ((List.length g = 29) /\ ((bs g = bs l) /\
  (((29 : Int) = Int.ofNat (List.length (Array.toList (ByteArray.data (bs l))))) /\ (((0 : Int) = (0 : Int)) /\ (∀ (side : Bool), (br (side) (∀ (y : Unit), ((fmd g = true) →
  ((v = true) /\ True))) (∀ (y : Unit), ((fmd g = false) → ((v = false) /\ True))))))))))) := by kernel_rfl
theorem ln_con (y m : Nat) : Con Try.prog 55 [.int .i64 (y : Nat), .int .i64 (m : Nat)] [] (.int .i64 (lenN y m : Nat)) [] := by
  refine con_vc (E := E0) mixed (calls_envN _) (lok_envN _) (M := noM) lm_none (ln_vc y m _) ?_
  simp only [ofNat_eq, toNat_cast, Nat.zero_add, Nat.add_zero, Nat.mul_one, List.drop_zero, bCells_len, bCells_drop, bCells_take, bCells_app, bCells_one, bCells_plain, List.length_replicate, List.length_append, List.length_take, List.length_drop, List.take_length, and_true, true_and, and_self, decide_true, List.length_nil, List.length_cons, Nat.sub_zero, dB_mk, dB_ro, List.take_zero]
  have q : (y : Int).tmod 4 = ((y % 4 : Nat) : Int) := by rw [Int.tmod_eq_emod_of_nonneg (by omega)]; omega
  have e : ∀ (k : Int) (b : Bool), ((m : Int) == k) = b → (b = true → (m : Int) = k) ∧ (b = false → (m : Int) ≠ k) := fun k b h => by
    subst h
    exact ⟨fun h => by simpa using h, fun h => by simpa using h⟩
  rw [q]
  unfold lenN
  refine br_intro (fun a => br_intro (fun b => ?_) (fun b => ?_)) (fun a => br_intro (fun b => ?_) (fun b => br_intro (fun c => ?_) (fun c => br_intro (fun d => ?_) (fun d => br_intro (fun e => ?_) (fun e => ?_)))))
  · have a : (m : Int) = 1 := by simpa using a
    have b : ((y % 4 : Nat) : Int) = 0 := by simpa using b
    rw [if_pos (by omega), if_pos (by omega)]; rfl
  · have a : (m : Int) = 1 := by simpa using a
    have b : ¬ ((y % 4 : Nat) : Int) = 0 := by simpa using b
    rw [if_pos (by omega), if_neg (by omega)]; rfl
  all_goals have a : ¬ (m : Int) = 1 := by simpa using a
  · have b : (m : Int) = 3 := by simpa using b
    rw [if_neg (by omega), if_pos (by omega)]; rfl
  · have c : (m : Int) = 5 := by simpa using c
    rw [if_neg (by omega), if_pos (by omega)]; rfl
  · have d : (m : Int) = 8 := by simpa using d
    rw [if_neg (by omega), if_pos (by omega)]; rfl
  · have e : (m : Int) = 10 := by simpa using e
    rw [if_neg (by omega), if_pos (by omega)]; rfl
  · have b : ¬ (m : Int) = 3 := by simpa using b
    have c : ¬ (m : Int) = 5 := by simpa using c
    have d : ¬ (m : Int) = 8 := by simpa using d
    have e : ¬ (m : Int) = 10 := by simpa using e
    rw [if_neg (by omega), if_neg (by omega)]; rfl
theorem cBf_ok : ∀ f a rows p v news, cBf f a rows = some (p, v, news) → p → Con Try.prog f a rows v (rows ++ news) := by
  intro f a rows p v news h hp
  unfold cBf at h
  split at h <;> simp only [Option.some.injEq, Prod.mk.injEq, reduceCtorEq] at h <;> obtain ⟨rfl, rfl, rfl⟩ := h
  rename_i y m
  have := ln_con y.toNat m.toNat
  rw [Int.toNat_of_nonneg hp.1, Int.toNat_of_nonneg hp.2] at this
  exact this
theorem Bf_piece : PieceOk EBf 0 (41, pBf, specBf) := by
  refine piece_loop mixed (calls_envC cBf_ok) (lok_envC _ _ _) lm_none (n := 60) (by kernel_rfl) (fun _ : GBf => (0 : Nat)) (fun g i => i ≤ g.m) (fun g i => g.m - i) (sl := slBf) (rl := fun _ _ => []) (fun g hg => Nat.zero_le _) (fun g i hg hi => ?_)
  refine (bf_round g i _ _).mpr ?_
  obtain ⟨y, m⟩ := g
  simp only at hg hi
  simp only [ofNat_eq, toNat_cast, Nat.zero_add, Nat.add_zero, Nat.mul_one, List.drop_zero, bCells_len, bCells_drop, bCells_take, bCells_app, bCells_one, bCells_plain, List.length_replicate, List.length_append, List.length_take, List.length_drop, List.take_length, and_true, true_and, and_self, decide_true, List.length_nil, List.length_cons, Nat.sub_zero, dB_mk, dB_ro, List.take_zero]
  have hlen : lenI (y : Int) (i : Int) = ((lenN y i : Nat) : Int) := by unfold lenI; rw [Int.toNat_natCast, Int.toNat_natCast]
  have hc := cum_le y i (by omega)
  have hb : befN y i ≤ 1000000 := by unfold befN; omega
  have hl := len_le y i
  have w := i64_succ (show i < 9223372036854775807 by omega)
  refine br_if (fun h => ⟨⟨by omega, by omega⟩, i + 1, by omega, by omega, ?_, w.symm⟩) (fun h => ⟨(), by rw [show i = m by omega]⟩)
  rw [hlen, wr64_id (by unfold I64; omega), bef_succ]; omega
theorem bf_con (y m : Nat) (h1 : 1970 ≤ y) (h2 : y ≤ 3000) (h3 : m ≤ 12) : Con Try.prog 41 [.int .i64 (y : Nat), .int .i64 (m : Nat)] [] (.int .i64 (befN y m : Nat)) [] := by
  refine con_vc (E := EBf) mixed (calls_envC cBf_ok) (lok_envC _ _ _) (M := mBf) (lm_one Bf_piece) (bf_vc y m _) ?_
  simp only [ofNat_eq, toNat_cast, Nat.zero_add, Nat.add_zero, Nat.mul_one, List.drop_zero, bCells_len, bCells_drop, bCells_take, bCells_app, bCells_one, bCells_plain, List.length_replicate, List.length_append, List.length_take, List.length_drop, List.take_length, and_true, true_and, and_self, decide_true, List.length_nil, List.length_cons, Nat.sub_zero, dB_mk, dB_ro, List.take_zero]
  refine ⟨⟨y, m⟩, ⟨h1, h2, h3⟩, rfl, ?_, rfl, fun _ _ => rfl⟩
  simp only
  rw [wr64_id (n := (y : Int) - 1970) (by unfold I64; omega), wr64_id (n := ((y : Int) - 1970) * 365) (by unfold I64; omega), wr64_id (n := (y : Int) - 1970 + 1) (by unfold I64; omega)]
  rw [show ((y : Int) - 1970 + 1).tdiv 4 = (((y - 1970 + 1) / 4 : Nat) : Int) by rw [Int.tdiv_eq_ediv_of_nonneg (by omega)]; omega]
  rw [wr64_id (n := (((y - 1970 + 1) / 4 : Nat) : Int)) (by unfold I64; omega), wr64_id (by unfold I64; omega)]
  unfold befN; simp only [cumN]; omega
theorem dg2_con (n : Nat) (h : n ≤ 100000) : Con Try.prog 43 [.int .i64 (n : Nat), .int .i64 2] [] (.string (bs (dg2 n))) [] := by
  refine con_vc (E := E0) mixed (calls_envN _) (lok_envN _) (M := noM) lm_none (dg2_vc n _) ?_
  simp only [ofNat_eq, toNat_cast, Nat.zero_add, Nat.add_zero, Nat.mul_one, List.drop_zero, bCells_len, bCells_drop, bCells_take, bCells_app, bCells_one, bCells_plain, List.length_replicate, List.length_append, List.length_take, List.length_drop, List.take_length, and_true, true_and, and_self, decide_true, List.length_nil, List.length_cons, Nat.sub_zero, dB_mk, dB_ro, List.take_zero]
  have q1 : IntKind.i64.wrap ((n : Int).tdiv 10) = ((n / 10 : Nat) : Int) := by rw [Int.tdiv_eq_ediv_of_nonneg (by omega), wr64_id (by unfold I64; omega)]; omega
  have q2 : ∀ k : Nat, Value.int .u8 (IntKind.u8.wrap (IntKind.i64.wrap (48 + ((k : Nat) : Int).tmod 10))) = bVal (dgc k) := fun k => by
    rw [Int.tmod_eq_emod_of_nonneg (by omega), wr64_id (by unfold I64; omega), show (48 + (k : Int) % 10) = ((48 + k % 10 : Nat) : Int) by omega, wru8_nat (by omega)]
    unfold bVal; rw [dgc_nat]
  have hsz : E0.P.types[5].size = 1 := by kernel_rfl
  simp only [q1, q2, hsz, show IntKind.i64.wrap (2 - 1) = 1 from rfl, show IntKind.i64.wrap (1 - 1) = 0 from rfl]
  refine ⟨bCells_all (dg2 n), ?_⟩
  have := bCells_bOf (dg2 n)
  conv => lhs; rw [← this]
  rfl
theorem dg4_con (n : Nat) (h : n ≤ 100000) : Con Try.prog 43 [.int .i64 (n : Nat), .int .i64 4] [] (.string (bs (dg4 n))) [] := by
  refine con_vc (E := E0) mixed (calls_envN _) (lok_envN _) (M := noM) lm_none (dg4_vc n _) ?_
  simp only [ofNat_eq, toNat_cast, Nat.zero_add, Nat.add_zero, Nat.mul_one, List.drop_zero, bCells_len, bCells_drop, bCells_take, bCells_app, bCells_one, bCells_plain, List.length_replicate, List.length_append, List.length_take, List.length_drop, List.take_length, and_true, true_and, and_self, decide_true, List.length_nil, List.length_cons, Nat.sub_zero, dB_mk, dB_ro, List.take_zero]
  have q1 : ∀ k : Nat, k ≤ 100000 → IntKind.i64.wrap ((k : Int).tdiv 10) = ((k / 10 : Nat) : Int) := fun k hk => by rw [Int.tdiv_eq_ediv_of_nonneg (by omega), wr64_id (by unfold I64; omega)]; omega
  have q2 : ∀ k : Nat, Value.int .u8 (IntKind.u8.wrap (IntKind.i64.wrap (48 + ((k : Nat) : Int).tmod 10))) = bVal (dgc k) := fun k => by
    rw [Int.tmod_eq_emod_of_nonneg (by omega), wr64_id (by unfold I64; omega), show (48 + (k : Int) % 10) = ((48 + k % 10 : Nat) : Int) by omega, wru8_nat (by omega)]
    unfold bVal; rw [dgc_nat]
  have hsz : E0.P.types[5].size = 1 := by kernel_rfl
  have e : n / 100 / 10 = n / 1000 := by omega
  have e2 : n / 10 / 10 = n / 100 := by omega
  simp only [q1 n h, q1 (n / 10) (by omega), q1 (n / 100) (by omega), e, e2, q2, hsz, show IntKind.i64.wrap (4 - 1) = 3 from rfl, show IntKind.i64.wrap (3 - 1) = 2 from rfl, show IntKind.i64.wrap (2 - 1) = 1 from rfl, show IntKind.i64.wrap (1 - 1) = 0 from rfl]
  refine ⟨bCells_all (dg4 n), ?_⟩
  have := bCells_bOf (dg4 n)
  conv => lhs; rw [← this]
  rfl
theorem Nm_piece : PieceOk E0 0 (60, pNm, specNm) := by
  refine piece_loop mixed (calls_envN _) (lok_envN _) lm_none (n := 60) (by kernel_rfl) (fun _ => (⟨0, 0⟩ : StNm)) (fun l s => s.i ≤ l.length ∧ s.n = numL (l.take s.i) ∧ s.n ≤ 1000 ^ s.i) (fun l s => l.length - s.i) (sl := slNm) (rl := fun _ _ => []) (fun l hl => ⟨Nat.zero_le _, by simp [numL], by simp⟩) (fun l s hl hi => ?_)
  refine (nm_round l s _ _).mpr ?_
  obtain ⟨n, i⟩ := s
  obtain ⟨h1, h2, h3⟩ := hi
  simp only at h1 h2 h3
  simp only [ofNat_eq, toNat_cast, Nat.zero_add, Nat.add_zero, Nat.mul_one, List.drop_zero, bCells_len, bCells_drop, bCells_take, bCells_app, bCells_one, bCells_plain, List.length_replicate, List.length_append, List.length_take, List.length_drop, List.take_length, and_true, true_and, and_self, decide_true, List.length_nil, List.length_cons, Nat.sub_zero, dB_mk, dB_ro, List.take_zero, bs_dd]
  refine br_if (fun h => br_dec (by omega) ?_) (fun h => ?_)
  · have hi : i < l.length := by omega
    rw [byteAt_bs hi]
    have w := i64_succ (show i < 9223372036854775807 by omega)
    have ht : l.take (i + 1) = l.take i ++ [l[i]] := List.take_succ_eq_append_getElem hi
    have hd : IntKind.i64.wrap (IntKind.u8.wrap ((l[i].toNat : Int) - 48)) = ((dv l[i] : Nat) : Int) := by
      rw [wru8, wr64_id (by unfold I64; omega)]; unfold dv; omega
    have hdv : dv l[i] ≤ 255 := by unfold dv; omega
    have hp : 1 ≤ 1000 ^ i := Nat.one_le_pow _ _ (by omega)
    have hp5 : 1000 ^ i ≤ 1000 ^ 5 := Nat.pow_le_pow_right (by omega) (by omega)
    have hp5' : (1000 : Nat) ^ 5 = 1000000000000000 := rfl
    rw [hd, w, wr64_id (n := (n : Int) * 10) (by unfold I64; omega), wr64_id (by unfold I64; omega)]
    refine ⟨⟨n * 10 + dv l[i], i + 1⟩, ⟨by simp only; omega, ?_, ?_⟩, by simp only; omega, by simp only; omega, rfl⟩
    · simp only; rw [ht]; unfold numL at h2 ⊢; rw [List.foldl_append, ← h2]; rfl
    · simp only; rw [Nat.pow_succ]; omega
  · rw [List.take_of_length_le (by omega)] at h2
    exact ⟨(), by rw [h2]⟩
theorem nm_con (l : List UInt8) (hl : l.length ≤ 6) : Con Try.prog 60 [.string (bs l)] [] (.int .i64 (numL l : Nat)) [] := by
  refine con_vc (E := E0) mixed (calls_envN _) (lok_envN _) (M := mNm) (lm_one Nm_piece) (nm_vc l _) ?_
  simp only [ofNat_eq, toNat_cast, Nat.zero_add, Nat.add_zero, Nat.mul_one, List.drop_zero, bCells_len, bCells_drop, bCells_take, bCells_app, bCells_one, bCells_plain, List.length_replicate, List.length_append, List.length_take, List.length_drop, List.take_length, and_true, true_and, and_self, decide_true, List.length_nil, List.length_cons, Nat.sub_zero, dB_mk, dB_ro, List.take_zero, bs_dd]
  exact ⟨l, hl, rfl, rfl, fun _ _ => rfl⟩
theorem Fd_piece : PieceOk E0 0 (61, pFd, specFd) := by
  refine piece_loop mixed (calls_envN _) (lok_envN _) lm_none (n := 60) (by kernel_rfl) (fun _ => (0 : Nat)) (fun s i => i ≤ 12 ∧ ∀ j < i, nm3 moL j ≠ s) (fun _ i => 12 - i) (sl := slFd) (rl := fun _ _ => []) (fun s hs => ⟨Nat.zero_le _, fun j hj => by omega⟩) (fun s i hs hi => ?_)
  refine (fd_round s i _ _).mpr ?_
  obtain ⟨h1, h2⟩ := hi
  simp only [ofNat_eq, toNat_cast, Nat.zero_add, Nat.add_zero, Nat.mul_one, List.drop_zero, bCells_len, bCells_drop, bCells_take, bCells_app, bCells_one, bCells_plain, List.length_replicate, List.length_append, List.length_take, List.length_drop, List.take_length, and_true, true_and, and_self, decide_true, List.length_nil, List.length_cons, Nat.sub_zero, dB_mk, dB_ro, List.take_zero, bs_dd]
  have w := i64_succ (show i < 9223372036854775807 by omega)
  refine br_if (fun h => ?_) (fun h => ⟨0, fnd_none (fun j hj => h2 j (by omega))⟩)
  rw [wr64_id (n := 3 * (i : Int)) (by unfold I64; omega), wr64_id (n := 3 * (i : Int) + 3) (by unfold I64; omega), w]
  have hs : sub (bs moL) (3 * (i : Int)).toNat (3 * (i : Int) + 3).toNat = bs (nm3 moL i) := by
    rw [sub_bs, show (3 * (i : Int)).toNat = 3 * i by omega, show (3 * (i : Int) + 3).toNat = 3 * i + 3 by omega, show 3 * i + 3 - 3 * i = 3 by omega]; rfl
  rw [hs, strEq_bs]
  refine br_dec (by omega) (br_if (fun k => ⟨i, fnd_first (by omega) k, rfl⟩) (fun k => ⟨i + 1, ⟨by omega, fun j hj => ?_⟩, by omega, rfl⟩))
  by_cases e : j = i
  · subst e; exact k
  · exact h2 j (by omega)
theorem fd_con (s : List UInt8) (hs : s.length ≤ maxLen) : Con Try.prog 61 [.string (bs moL), .string (bs s)] [] (.int .i64 (fnI (bs s))) [] := by
  refine con_vc (E := E0) mixed (calls_envN _) (lok_envN _) (M := mFd) (lm_one Fd_piece) (fd_vc s _) ?_
  simp only [ofNat_eq, toNat_cast, Nat.zero_add, Nat.add_zero, Nat.mul_one, List.drop_zero, bCells_len, bCells_drop, bCells_take, bCells_app, bCells_one, bCells_plain, List.length_replicate, List.length_append, List.length_take, List.length_drop, List.take_length, and_true, true_and, and_self, decide_true, List.length_nil, List.length_cons, Nat.sub_zero, dB_mk, dB_ro, List.take_zero, bs_dd]
  refine ⟨s, rfl, br_side (fun y hy => ?_) (fun y hy => ?_)⟩
  · unfold fnI; rw [L_bs, hy]
  · unfold fnI; rw [L_bs, hy]
theorem Fm_piece : PieceOk E0 0 (59, pFm, specFm) := by
  refine piece_loop mixed (calls_envN _) (lok_envN _) lm_none (n := 60) (by kernel_rfl) (fun _ => (0 : Nat)) (fun l i => i ≤ 29 ∧ ∀ j < i, okB (fmL.getD j 0) (l.getD j 0) = true) (fun _ i => 29 - i) (sl := slFm) (rl := fun _ _ => []) (fun s hs => ⟨Nat.zero_le _, fun j hj => by omega⟩) (fun l i hl hi => ?_)
  refine (fm_round l i _ _).mpr ?_
  obtain ⟨h1, h2⟩ := hi
  simp only [ofNat_eq, toNat_cast, Nat.zero_add, Nat.add_zero, Nat.mul_one, List.drop_zero, bCells_len, bCells_drop, bCells_take, bCells_app, bCells_one, bCells_plain, List.length_replicate, List.length_append, List.length_take, List.length_drop, List.take_length, and_true, true_and, and_self, decide_true, List.length_nil, List.length_cons, Nat.sub_zero, dB_mk, dB_ro, List.take_zero, bs_dd]
  have w := i64_succ (show i < 9223372036854775807 by omega)
  rw [show (⟨#[95, 95, 95, 44, 32, 48, 48, 32, 95, 95, 95, 32, 48, 48, 48, 48, 32, 48, 48, 58, 48, 48, 58, 48, 48, 32, 71, 77, 84]⟩ : ByteArray) = bs fmL from rfl, w]
  refine br_if (fun h => br_dec (by omega) ?_) (fun h => ⟨(), (fmd_iff l).2 ⟨hl, fun j hj => h2 j (by omega)⟩⟩)
  have hi : i < l.length := by omega
  have hf : i < fmL.length := by show i < 29; omega
  rw [byteAt_bs hi, byteAt_bs hf]
  have gl : l.getD i 0 = l[i] := by rw [List.getD_eq_getElem?_getD, List.getElem?_eq_getElem hi]; rfl
  have gf : fmL.getD i 0 = fmL[i] := by rw [List.getD_eq_getElem?_getD, List.getElem?_eq_getElem hf]; rfl
  generalize hcf : fmL[i] = f at *
  generalize hcl : l[i] = c at *
  have no : okB f c = false → fmd l = false := fun e => by
    cases hx : fmd l with
    | false => rfl
    | true =>
      have := ((fmd_iff l).1 hx).2 i (by omega)
      rw [gl, gf, e] at this; simp at this
  have yes : okB f c = true → ∃ j, (j ≤ 29 ∧ ∀ k < j, okB (fmL.getD k 0) (l.getD k 0) = true) ∧ 29 - j < 29 - i ∧ (j : Int) = ((i + 1 : Nat) : Int) := fun e => ⟨i + 1, ⟨by omega, fun k hk => by
    by_cases e2 : k = i
    · subst e2; rw [gl, gf]; exact e
    · exact h2 k (by omega)⟩, by omega, rfl⟩
  have fN : ∀ n : Nat, n < 256 → (((f.toNat : Int) == (n : Int)) = true → f = UInt8.ofNat n) ∧ (((f.toNat : Int) == (n : Int)) = false → f ≠ UInt8.ofNat n) := fun n hn => ⟨fun h => (u8_nat hn).1 (by simpa using h), fun h e => by rw [(u8_nat hn).2 e] at h; simp at h⟩
  refine br_intro (fun a => yes ?_) (fun a => br_intro (fun b => br_dec (by omega) (br_if (fun c1 => ⟨(), no ?_⟩) (fun c1 => br_dec (by omega) (br_if (fun c2 => ⟨(), no ?_⟩) (fun c2 => yes ?_))))) (fun b => br_dec (by omega) (br_dec (by omega) (br_intro (fun c1 => ⟨(), no ?_⟩) (fun c1 => yes ?_)))))
  · have a : f = 95 := (fN 95 (by omega)).1 a
    unfold okB; rw [a]; simp
  · have b : f = 48 := (fN 48 (by omega)).1 b
    unfold okB; rw [b]; simp; omega
  · have b : f = 48 := (fN 48 (by omega)).1 b
    unfold okB; rw [b]; simp; omega
  · have b : f = 48 := (fN 48 (by omega)).1 b
    unfold okB; rw [b]; simp; omega
  · have a : f ≠ 95 := (fN 95 (by omega)).2 a
    have b : f ≠ 48 := (fN 48 (by omega)).2 b
    have c1 : c ≠ f := fun e => by rw [e] at c1; simp at c1
    unfold okB; simp [a, b, c1]
  · have a : f ≠ 95 := (fN 95 (by omega)).2 a
    have b : f ≠ 48 := (fN 48 (by omega)).2 b
    have c1 : c = f := u8_eq (by simpa using c1)
    unfold okB; simp [a, b, c1]
theorem fm_con (l : List UInt8) (hl : l.length ≤ maxLen) : Con Try.prog 59 [.string (bs l)] [] (.bool (fmd l)) [] := by
  refine con_vc (E := E0) mixed (calls_envN _) (lok_envN _) (M := mFm) (lm_one Fm_piece) (fm_vc l _) ?_
  simp only [ofNat_eq, toNat_cast, Nat.zero_add, Nat.add_zero, Nat.mul_one, List.drop_zero, bCells_len, bCells_drop, bCells_take, bCells_app, bCells_one, bCells_plain, List.length_replicate, List.length_append, List.length_take, List.length_drop, List.take_length, and_true, true_and, and_self, decide_true, List.length_nil, List.length_cons, Nat.sub_zero, dB_mk, dB_ro, List.take_zero, bs_dd]
  refine br_intro (fun h => ?_) (fun h => ?_)
  · cases hx : fmd l with
    | false => rfl
    | true => have := ((fmd_iff l).1 hx).1; rw [this] at h; simp at h
  · have h : l.length = 29 := by
      have : (l.length : Int) = 29 := by simpa using h
      omega
    exact ⟨l, h, rfl, by omega, br_side (fun _ e => e) (fun _ e => e)⟩
end Go.Proofs.Ytideeogedleabaa.tk
