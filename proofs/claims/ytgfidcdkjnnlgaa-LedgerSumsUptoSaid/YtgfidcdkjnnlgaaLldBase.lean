/- Talks: what a field says of them, their status, whose they are. -/
import Derived.Test.YtgfidcdkjnnlgaaSz9
import Derived.Test.YtgfidcdkjnnlgaaRows
import Derived.Test.YtgfidcdkjnnlgaaLlgtK
import Derived.Test.YtgfidcdkjnnlgaaLbrt
import Derived.Test.YtgfidcdkjnnlgaaLbsx
set_option linter.unusedSimpArgs false
set_option linter.unusedVariables false
namespace Go.Proofs.Ytgfidcdkjnnlgaa.tk
open Go Go.Ev Go.Sy Go.RowKit Go.Proofs.Ytgfidcdkjnnlgaa.gl
structure TkY where
  p : Int
  l : Int
  s : Int
  b : ByteArray
  e : Bool
  r : Bool
  c : Int
  a : Int
def tkCy (y : TkY) (r n : Nat) : List Value := [.int .i64 y.p, .int .i64 y.l, .int .i64 y.s, .slice (some ⟨r, 0, none⟩) n 2, .string y.b, .bool y.e, .bool y.r, .int .i64 y.c, .int .i64 y.a]
def fstF (nm : List UInt8) : List Fl → Option (List UInt8)
  | [] => none
  | f :: l => if f.n = nm then some f.v else fstF nm l
def fsL (nm : List UInt8) (l : List Fl) : List UInt8 := (fstF nm l).getD []
def fsV (r : Row) (s : ByteArray) : ByteArray := bs (fsL (L s) (decF r.cells))
def fsB (r : Row) (s : ByteArray) : Bool := (fstF (L s) (decF r.cells)).isSome
def sStat : List UInt8 := [58, 115, 116, 97, 116, 117, 115]
def sCoLe : List UInt8 := [99, 111, 110, 116, 101, 110, 116, 45, 108, 101, 110, 103, 116, 104]
def sAge : List UInt8 := [97, 103, 101]
def sVia : List UInt8 := [118, 105, 97]
def sRes : List UInt8 := [50, 32, 114, 101, 115, 101, 114, 118, 111, 105, 114]
def isDg (c : UInt8) : Bool := decide (48 ≤ c.toNat ∧ c.toNat ≤ 57)
def digF : List UInt8 → Nat → Option Nat
  | [], n => some n
  | c :: r, n => if isDg c then digF r (n * 10 + (c.toNat - 48)) else none
def stN (l : List UInt8) : Nat := if l.length = 3 then (digF l 0).getD 0 else 0
def statL (l : List Fl) : Nat := stN (fsL sStat l)
def statR (r : Row) : Int := (statL (decF r.cells) : Nat)
def ownL (l : List Fl) (b : List UInt8) : Bool := (decide (statL l = 502) || decide (statL l = 503) || decide (statL l = 504)) && decide (l.length = 2) && decide (fsL sCoLe l = [48]) && decide (b = [])
def ownR (r : Row) (b : ByteArray) : Bool := ownL (decF r.cells) (L b)
def storL (l : List Fl) (b : List UInt8) : Bool := (fstF sAge l).isSome && decide (fsL sVia l = sRes) && !ownL l b
def storR (r : Row) (b : ByteArray) : Bool := storL (decF r.cells) (L b)
noncomputable def eLgt : EntM := entC 10 fun a r => match a, r with
  | [.slice (some ⟨0, 0, none⟩) n 2], [r0] => some (IsF r0 n ∧ n ≤ 1048576 ∧ ShR r0, .bool (lgR r0), [])
  | _, _ => none
noncomputable def eVa : EntM := entC 11 fun a r => match a, r with
  | [.agg ⟨[.int .i64 p, .int .i64 l, .int .i64 s, .slice (some ⟨0, 0, none⟩) n 2, .string b, .bool e, .bool rr, .int .i64 c, .int .i64 aa]⟩, .string nm], [r0] => some (IsF r0 n ∧ n ≤ maxLen, .tuple #[.string (fsV r0 nm), .bool (fsB r0 nm)], [])
  | _, _ => none
noncomputable def eSt : EntM := entC 9 fun a r => match a, r with
  | [.agg ⟨[.int .i64 p, .int .i64 l, .int .i64 s, .slice (some ⟨0, 0, none⟩) n 2, .string b, .bool e, .bool rr, .int .i64 c, .int .i64 aa]⟩], [r0] => some (IsF r0 n ∧ n ≤ maxLen, .int .i64 (statR r0), [])
  | _, _ => none
noncomputable def eOw : EntM := entC 14 fun a r => match a, r with
  | [.agg ⟨[.int .i64 p, .int .i64 l, .int .i64 s, .slice (some ⟨0, 0, none⟩) n 2, .string b, .bool e, .bool rr, .int .i64 c, .int .i64 aa]⟩], [r0] => some (IsF r0 n ∧ n ≤ maxLen, .bool (ownR r0 b), [])
  | _, _ => none
noncomputable def eSd : EntM := entC 15 fun a r => match a, r with
  | [.agg ⟨[.int .i64 p, .int .i64 l, .int .i64 s, .slice (some ⟨0, 0, none⟩) n 2, .string b, .bool e, .bool rr, .int .i64 c, .int .i64 aa]⟩], [r0] => some (IsF r0 n ∧ n ≤ maxLen, .bool (storR r0 b), [])
  | _, _ => none
noncomputable def tV : List EntM := [eVa]
noncomputable abbrev EtV : Env := envT Try.prog tV
noncomputable def tOw : List EntM := [eVa, eSt]
noncomputable abbrev EtOw : Env := envT Try.prog tOw
noncomputable def tSd : List EntM := [eVa, eOw]
noncomputable abbrev EtSd : Env := envT Try.prog tSd
def pVa : List Nat := [0, 1, 0, 1]
structure GVa where
  l : List Fl
  nm : List UInt8
  y : TkY
def slVa (g : GVa) (i : Nat) : List (Nat × Value) := [(1, .string (bs g.nm)), (9, .slice (some ⟨0, 0, none⟩) g.l.length 2), (10, .int .i64 (g.l.length : Nat)), (11, .int .i64 (i : Nat))]
def rlVa (g : GVa) : List (Nat × Row) := [(0, gRo enF g.l)]
def wsVa (g : GVa) : List (Gate Unit) := [⟨.exit 0, fun _ => fstF g.nm g.l = none, fun _ => [], fun _ => rlVa g, 1⟩, ⟨.ret, fun _ => (fstF g.nm g.l).isSome = true, fun _ => [(4, .string (bs (fsL g.nm g.l))), (5, .bool true)], fun _ => rlVa g, 1⟩]
def specVa : Sy.Spec := specOf 1 2 22 (fun g : GVa => g.l.length ≤ maxLen) (fun g => slVa g 0) rlVa wsVa
def mVa := mOf [(11, pVa, specVa)]
def pSt : List Nat := [0, 1, 0, 1, 1, 1, 1]
structure StSt where
  n : Nat
  i : Nat
structure GSt where
  t : List UInt8
  l : List Fl
def slSt (g : GSt) (s : StSt) : List (Nat × Value) := [(3, .string (bs g.t)), (5, .int .i64 (s.n : Nat)), (16, .int .i64 3), (17, .int .i64 (s.i : Nat))]
def wsSt (g : GSt) : List (Gate Nat) := [⟨.exit 0, fun n => digF g.t 0 = some n, fun n => [(5, .int .i64 (n : Nat))], fun _ => [(0, gRo enF g.l)], 1⟩, ⟨.ret, fun n => digF g.t 0 = none ∧ n = 0, fun n => [(2, .int .i64 (n : Nat))], fun _ => [(0, gRo enF g.l)], 1⟩]
def specSt : Sy.Spec := specOf 1 2 40 (fun g : GSt => g.t.length = 3) (fun g => slSt g ⟨0, 0⟩) (fun g => [(0, gRo enF g.l)]) wsSt
def mSt := mOf [(9, pSt, specSt)]
theorem Va_round (g : GVa) (i : Nat) (Inv : Nat → Prop) (m : Nat → Nat) : mev E0 noM 60 11 (0 :: pVa) false (codeOf Try.prog 11 (0 :: pVa)) ⟨mkOv (slVa g i), 22, []⟩ none ⟨mkR (rlVa g), 2⟩ (roundK 1 2 22 Inv m (slVa g) (fun _ => rlVa g) (wsVa g) i) =
  (br (decide ((↑i : Int) < (↑(List.length g.1) : Int))) (br (decide ((0 : Int) <= (↑i : Int) /\ (↑i : Int) < (↑(List.length g.1) : Int))) ((Eq (α := Option Value) ((gC enF
  g.1)[0 + Int.toNat (↑i : Int) * 2]?) (some (Value.string (cellS (gC enF g.1) (0 + Int.toNat (↑i : Int) * 2))))) /\ ((Eq (α := Option Value) ((gC enF g.1)[0 + Int.toNat (↑i
  : Int) * 2 + 1]?) (some (Value.string (cellS (gC enF g.1) (0 + Int.toNat (↑i : Int) * 2 + 1))))) /\ (br (strEq (cellS (gC enF g.1) (0 + Int.toNat (↑i : Int) * 2)) (bs
  g.2)) (∃ y : Unit, ((Option.isSome (fstF (GVa.nm g) (GVa.l g)) = true) /\ ((bs (fsL g.2 g.1) = cellS (gC enF g.1) (0 + Int.toNat (↑i : Int) * 2 + 1)) /\ ((true = true) /\
  ((Eq (α := List Value) (gC enF g.1) (gC enF g.1)) /\ ((Plain (gC enF g.1)) /\ True)))))) (∃ j : Nat, ((Inv j) /\ ((m j < m i) /\ ((bs g.2 = bs g.2) /\ ((0 = 0) /\
  ((List.length g.1 = List.length g.1) /\ (((↑(List.length g.1) : Int) = (↑(List.length g.1) : Int)) /\ (((↑j : Int) = IntKind.wrap IntKind.i64 ((↑i : Int) + (1 : Int))) /\
  ((Eq (α := List Value) (gC enF g.1) (gC enF g.1)) /\ ((Plain (gC enF g.1)) /\ True))))))))))))) False) (∃ y : Unit, ((Eq (α := Option (List UInt8)) (fstF g.2 g.1) (none))
  /\ ((Eq (α := List Value) (gC enF g.1) (gC enF g.1)) /\ ((Plain (gC enF g.1)) /\ True))))) := by kernel_rfl
theorem Va_vc (y : TkY) (l : List Fl) (nm : List UInt8) (v : ByteArray) (b : Bool) : mcall E0 mVa 60 11 [.agg ⟨tkCy y 0 l.length⟩, .string (bs nm)] ⟨mkR (nums 0 [gRo enF l]), 1⟩ (retIs 1 (.tuple #[.string v, .bool b]) [gRo enF l]) =
  (∃ g : GVa, ((List.length g.1 <= 9223372036854775807) /\ ((bs g.2 = bs nm) /\ ((0 = 0) /\ ((List.length g.1 = List.length l) /\ (((↑(List.length g.1) : Int) = Int.ofNat
  (List.length l)) /\ (((0 : Int) = (0 : Int)) /\ ((Eq (α := List Value) (gC enF g.1) (gC enF l)) /\ ((Plain (gC enF g.1)) /\ (∀ (side : Bool), (br (side) (∀ (y2 : Unit),
  ((fstF (GVa.nm g) (GVa.l g) = none) → ((v = ByteArray.mk #[]) /\ ((b = false) /\ ((Eq (α := List Value) (gC enF l) (gC enF g.1)) /\ ((Plain (gC enF l)) /\ True)))))) (∀
  (y2 : Unit), ((Option.isSome (fstF (GVa.nm g) (GVa.l g)) = true) → ((v = bs (fsL g.2 g.1)) /\ ((b = true) /\ ((Eq (α := List Value) (gC enF l) (gC enF g.1)) /\ ((Plain (gC
  enF l)) /\ True))))))))))))))))) := by kernel_rfl
theorem St_round (g : GSt) (s : StSt) (Inv : StSt → Prop) (m : StSt → Nat) : mev E0 noM 60 9 (0 :: pSt) false (codeOf Try.prog 9 (0 :: pSt)) ⟨mkOv (slSt g s), 40, []⟩ none ⟨mkR [(0, gRo enF g.l)], 2⟩ (roundK 1 2 40 Inv m (slSt g) (fun _ => [(0, gRo enF g.l)]) (wsSt g) s) =
  (br (decide ((↑s.2 : Int) < (3 : Int))) (br (decide ((0 : Int) <= (↑s.2 : Int) /\ (↑s.2 : Int) < (↑(List.length (Array.toList (ByteArray.data (bs g.1)))) : Int))) (br
  (decide (byteAt (bs g.1) (Int.toNat (↑s.2 : Int)) < (48 : Int))) (∃ y : Nat, (((Eq (α := Option Nat) (digF g.1 0) (none) /\ y = 0)) /\ (((↑y : Int) = (0 : Int)) /\ ((Eq (α
  := List Value) (gC enF g.2) (gC enF g.2)) /\ ((Plain (gC enF g.2)) /\ True))))) (br (decide ((0 : Int) <= (↑s.2 : Int) /\ (↑s.2 : Int) < (↑(List.length (Array.toList
  (ByteArray.data (bs g.1)))) : Int))) (br (decide (byteAt (bs g.1) (Int.toNat (↑s.2 : Int)) > (57 : Int))) (∃ y : Nat, (((Eq (α := Option Nat) (digF g.1 0) (none) /\ y =
  0)) /\ (((↑y : Int) = (0 : Int)) /\ ((Eq (α := List Value) (gC enF g.2) (gC enF g.2)) /\ ((Plain (gC enF g.2)) /\ True))))) (br (decide ((0 : Int) <= (↑s.2 : Int) /\ (↑s.2
  : Int) < (↑(List.length (Array.toList (ByteArray.data (bs g.1)))) : Int))) (∃ j : StSt, ((Inv j) /\ ((m j < m s) /\ ((bs g.1 = bs g.1) /\ (((↑j.1 : Int) = IntKind.wrap
  IntKind.i64 (IntKind.wrap IntKind.i64 ((↑s.1 : Int) * (10 : Int)) + IntKind.wrap IntKind.i64 (IntKind.wrap IntKind.u8 (byteAt (bs g.1) (Int.toNat (↑s.2 : Int)) - (48 :
  Int))))) /\ (((3 : Int) = (3 : Int)) /\ (((↑j.2 : Int) = IntKind.wrap IntKind.i64 ((↑s.2 : Int) + (1 : Int))) /\ ((Eq (α := List Value) (gC enF g.2) (gC enF g.2)) /\
  ((Plain (gC enF g.2)) /\ True))))))))) False)) False)) False) (∃ y : Nat, ((Eq (α := Option Nat) (digF g.1 0) (some y)) /\ (((↑y : Int) = (↑s.1 : Int)) /\ ((Eq (α := List
  Value) (gC enF g.2) (gC enF g.2)) /\ ((Plain (gC enF g.2)) /\ True)))))) := by kernel_rfl
theorem St_vc (y : TkY) (l : List Fl) (v : Int) : mcall EtV mSt 60 9 [.agg ⟨tkCy y 0 l.length⟩] ⟨mkR (nums 0 [gRo enF l]), 1⟩ (retIs 1 (.int .i64 v) [gRo enF l]) =
  (((((True /\ (True /\ (True /\ ((0 + List.length l * 2 <= List.length (gC enF l) /\ Plain (List.take (List.length l * 2) (List.drop 0 (gC enF l)))) /\ (True /\ (True /\
  (True /\ (True /\ (True /\ True))))))))) /\ (True /\ True)) /\ ((True /\ True) /\ (True /\ (IsF (Row.mk (List.take (List.length l * 2) (List.drop 0 (gC enF l))) true
  (Ob.cells true)) (List.length l) /\ List.length l <= 9223372036854775807))))) /\ (br (Int.ofNat (List.length (Array.toList (ByteArray.data (fsV (Row.mk (List.take
  (List.length l * 2) (List.drop 0 (gC enF l))) true (Ob.cells true)) (ByteArray.mk #[58, 115, 116, 97, 116, 117, 115]))))) != (3 : Int)) ((v = (0 : Int)) /\ ((Eq (α := List
  Value) (gC enF l) (gC enF l)) /\ ((Plain (gC enF l)) /\ True))) (∃ g : GSt, ((List.length g.1 = 3) /\ ((bs g.1 = fsV (Row.mk (List.take (List.length l * 2) (List.drop 0
  (gC enF l))) true (Ob.cells true)) (ByteArray.mk #[58, 115, 116, 97, 116, 117, 115])) /\ (((0 : Int) = (0 : Int)) /\ (((3 : Int) = Int.ofNat (List.length (Array.toList
  (ByteArray.data (fsV (Row.mk (List.take (List.length l * 2) (List.drop 0 (gC enF l))) true (Ob.cells true)) (ByteArray.mk #[58, 115, 116, 97, 116, 117, 115])))))) /\ (((0
  : Int) = (0 : Int)) /\ ((Eq (α := List Value) (gC enF g.2) (gC enF l)) /\ ((Plain (gC enF g.2)) /\ (∀ (side : Bool), (br (side) (∀ (y2 : Nat), ((digF (GSt.t g) 0 = some
  y2) → ((v = (↑y2 : Int)) /\ ((Eq (α := List Value) (gC enF l) (gC enF g.2)) /\ ((Plain (gC enF l)) /\ True))))) (∀ (y2 : Nat), ((digF (GSt.t g) 0 = none /\ y2 = 0) → ((v =
  (↑y2 : Int)) /\ ((Eq (α := List Value) (gC enF l) (gC enF g.2)) /\ ((Plain (gC enF l)) /\ True))))))))))))))))) := by kernel_rfl
theorem Ow_vc (y : TkY) (l : List Fl) (v : Bool) : mcall EtOw noM 60 14 [.agg ⟨tkCy y 0 l.length⟩] ⟨mkR (nums 0 [gRo enF l]), 1⟩ (retIs 1 (.bool v) [gRo enF l]) =
  (((((True /\ (True /\ (True /\ ((0 + List.length l * 2 <= List.length (gC enF l) /\ Plain (List.take (List.length l * 2) (List.drop 0 (gC enF l)))) /\ (True /\ (True /\
  (True /\ (True /\ (True /\ True))))))))) /\ True) /\ ((True /\ True) /\ (True /\ (IsF (Row.mk (List.take (List.length l * 2) (List.drop 0 (gC enF l))) true (Ob.cells
  true)) (List.length l) /\ List.length l <= 9223372036854775807))))) /\ (br (statR (Row.mk (List.take (List.length l * 2) (List.drop 0 (gC enF l))) true (Ob.cells true)) ==
  (502 : Int)) (((((True /\ (True /\ (True /\ ((0 + List.length l * 2 <= List.length (gC enF l) /\ Plain (List.take (List.length l * 2) (List.drop 0 (gC enF l)))) /\ (True
  /\ (True /\ (True /\ (True /\ (True /\ True))))))))) /\ (True /\ True)) /\ ((True /\ True) /\ (True /\ (IsF (Row.mk (List.take (List.length l * 2) (List.drop 0 (gC enF
  l))) true (Ob.cells true)) (List.length l) /\ List.length l <= 9223372036854775807))))) /\ (br (fsB (Row.mk (List.take (List.length l * 2) (List.drop 0 (gC enF l))) true
  (Ob.cells true)) (ByteArray.mk #[99, 111, 110, 116, 101, 110, 116, 45, 108, 101, 110, 103, 116, 104])) (br (strEq (fsV (Row.mk (List.take (List.length l * 2) (List.drop 0
  (gC enF l))) true (Ob.cells true)) (ByteArray.mk #[99, 111, 110, 116, 101, 110, 116, 45, 108, 101, 110, 103, 116, 104])) (ByteArray.mk #[48])) (br (Int.ofNat (List.length
  l) == (2 : Int)) ((v = strEq y.4 (ByteArray.mk #[])) /\ ((Eq (α := List Value) (gC enF l) (gC enF l)) /\ ((Plain (gC enF l)) /\ True))) ((v = false) /\ ((Eq (α := List
  Value) (gC enF l) (gC enF l)) /\ ((Plain (gC enF l)) /\ True)))) ((v = false) /\ ((Eq (α := List Value) (gC enF l) (gC enF l)) /\ ((Plain (gC enF l)) /\ True)))) ((v =
  false) /\ ((Eq (α := List Value) (gC enF l) (gC enF l)) /\ ((Plain (gC enF l)) /\ True))))) (br (statR (Row.mk (List.take (List.length l * 2) (List.drop 0 (gC enF l)))
  true (Ob.cells true)) == (503 : Int)) (((((True /\ (True /\ (True /\ ((0 + List.length l * 2 <= List.length (gC enF l) /\ Plain (List.take (List.length l * 2) (List.drop 0
  (gC enF l)))) /\ (True /\ (True /\ (True /\ (True /\ (True /\ True))))))))) /\ (True /\ True)) /\ ((True /\ True) /\ (True /\ (IsF (Row.mk (List.take (List.length l * 2)
  (List.drop 0 (gC enF l))) true (Ob.cells true)) (List.length l) /\ List.length l <= 9223372036854775807))))) /\ (br (fsB (Row.mk (List.take (List.length l * 2) (List.drop
  0 (gC enF l))) true (Ob.cells true)) (ByteArray.mk #[99, 111, 110, 116, 101, 110, 116, 45, 108, 101, 110, 103, 116, 104])) (br (strEq (fsV (Row.mk (List.take (List.length
  l * 2) (List.drop 0 (gC enF l))) true (Ob.cells true)) (ByteArray.mk #[99, 111, 110, 116, 101, 110, 116, 45, 108, 101, 110, 103, 116, 104])) (ByteArray.mk #[48])) (br
  (Int.ofNat (List.length l) == (2 : Int)) ((v = strEq y.4 (ByteArray.mk #[])) /\ ((Eq (α := List Value) (gC enF l) (gC enF l)) /\ ((Plain (gC enF l)) /\ True))) ((v =
  false) /\ ((Eq (α := List Value) (gC enF l) (gC enF l)) /\ ((Plain (gC enF l)) /\ True)))) ((v = false) /\ ((Eq (α := List Value) (gC enF l) (gC enF l)) /\ ((Plain (gC enF
  l)) /\ True)))) ((v = false) /\ ((Eq (α := List Value) (gC enF l) (gC enF l)) /\ ((Plain (gC enF l)) /\ True))))) (br (statR (Row.mk (List.take (List.length l * 2)
  (List.drop 0 (gC enF l))) true (Ob.cells true)) == (504 : Int)) (((((True /\ (True /\ (True /\ ((0 + List.length l * 2 <= List.length (gC enF l) /\ Plain (List.take
  (List.length l * 2) (List.drop 0 (gC enF l)))) /\ (True /\ (True /\ (True /\ (True /\ (True /\ True))))))))) /\ (True /\ True)) /\ ((True /\ True) /\ (True /\ (IsF (Row.mk
  (List.take (List.length l * 2) (List.drop 0 (gC enF l))) true (Ob.cells true)) (List.length l) /\ List.length l <= 9223372036854775807))))) /\ (br (fsB (Row.mk (List.take
  (List.length l * 2) (List.drop 0 (gC enF l))) true (Ob.cells true)) (ByteArray.mk #[99, 111, 110, 116, 101, 110, 116, 45, 108, 101, 110, 103, 116, 104])) (br (strEq (fsV
  (Row.mk (List.take (List.length l * 2) (List.drop 0 (gC enF l))) true (Ob.cells true)) (ByteArray.mk #[99, 111, 110, 116, 101, 110, 116, 45, 108, 101, 110, 103, 116,
  104])) (ByteArray.mk #[48])) (br (Int.ofNat (List.length l) == (2 : Int)) ((v = strEq y.4 (ByteArray.mk #[])) /\ ((Eq (α := List Value) (gC enF l) (gC enF l)) /\ ((Plain
  (gC enF l)) /\ True))) ((v = false) /\ ((Eq (α := List Value) (gC enF l) (gC enF l)) /\ ((Plain (gC enF l)) /\ True)))) ((v = false) /\ ((Eq (α := List Value) (gC enF l)
  (gC enF l)) /\ ((Plain (gC enF l)) /\ True)))) ((v = false) /\ ((Eq (α := List Value) (gC enF l) (gC enF l)) /\ ((Plain (gC enF l)) /\ True))))) ((v = false) /\ ((Eq (α :=
  List Value) (gC enF l) (gC enF l)) /\ ((Plain (gC enF l)) /\ True))))))) := by kernel_rfl
theorem Sd_vc (y : TkY) (l : List Fl) (v : Bool) : mcall EtSd noM 60 15 [.agg ⟨tkCy y 0 l.length⟩] ⟨mkR (nums 0 [gRo enF l]), 1⟩ (retIs 1 (.bool v) [gRo enF l]) =
  (((((True /\ (True /\ (True /\ ((0 + List.length l * 2 <= List.length (gC enF l) /\ Plain (List.take (List.length l * 2) (List.drop 0 (gC enF l)))) /\ (True /\ (True /\
  (True /\ (True /\ (True /\ True))))))))) /\ (True /\ True)) /\ ((True /\ True) /\ (True /\ (IsF (Row.mk (List.take (List.length l * 2) (List.drop 0 (gC enF l))) true
  (Ob.cells true)) (List.length l) /\ List.length l <= 9223372036854775807))))) /\ (((((True /\ (True /\ (True /\ ((0 + List.length l * 2 <= List.length (gC enF l) /\ Plain
  (List.take (List.length l * 2) (List.drop 0 (gC enF l)))) /\ (True /\ (True /\ (True /\ (True /\ (True /\ True))))))))) /\ (True /\ True)) /\ ((True /\ True) /\ (True /\
  (IsF (Row.mk (List.take (List.length l * 2) (List.drop 0 (gC enF l))) true (Ob.cells true)) (List.length l) /\ List.length l <= 9223372036854775807))))) /\ (br (fsB
  (Row.mk (List.take (List.length l * 2) (List.drop 0 (gC enF l))) true (Ob.cells true)) (ByteArray.mk #[97, 103, 101])) (br (strEq (fsV (Row.mk (List.take (List.length l *
  2) (List.drop 0 (gC enF l))) true (Ob.cells true)) (ByteArray.mk #[118, 105, 97])) (ByteArray.mk #[50, 32, 114, 101, 115, 101, 114, 118, 111, 105, 114])) (((((True /\
  (True /\ (True /\ ((0 + List.length l * 2 <= List.length (gC enF l) /\ Plain (List.take (List.length l * 2) (List.drop 0 (gC enF l)))) /\ (True /\ (True /\ (True /\ (True
  /\ (True /\ True))))))))) /\ True) /\ ((True /\ True) /\ (True /\ (IsF (Row.mk (List.take (List.length l * 2) (List.drop 0 (gC enF l))) true (Ob.cells true)) (List.length
  l) /\ List.length l <= 9223372036854775807))))) /\ ((v = !ownR (Row.mk (List.take (List.length l * 2) (List.drop 0 (gC enF l))) true (Ob.cells true)) y.4) /\ ((Eq (α :=
  List Value) (gC enF l) (gC enF l)) /\ ((Plain (gC enF l)) /\ True)))) ((v = false) /\ ((Eq (α := List Value) (gC enF l) (gC enF l)) /\ ((Plain (gC enF l)) /\ True)))) ((v
  = false) /\ ((Eq (α := List Value) (gC enF l) (gC enF l)) /\ ((Plain (gC enF l)) /\ True)))))) := by kernel_rfl
theorem fstF_cons (nm : List UInt8) (f : Fl) (l : List Fl) : fstF nm (f :: l) = if f.n = nm then some f.v else fstF nm l := by rw [fstF]
theorem fstF_drop (nm : List UInt8) (l : List Fl) (i : Nat) (h : i < l.length) : fstF nm (l.drop i) = if l[i].n = nm then some l[i].v else fstF nm (l.drop (i + 1)) := by
  rw [List.drop_eq_getElem_cons h, fstF_cons]
theorem n_fsV (l : List Fl) (b : Bool) (o : Ob) (s : List UInt8) : fsV ⟨gC enF l, b, o⟩ (bs s) = bs (fsL s l) := by unfold fsV; simp only; rw [decF_gC, L_bs]
theorem n_fsB (l : List Fl) (b : Bool) (o : Ob) (s : List UInt8) : fsB ⟨gC enF l, b, o⟩ (bs s) = (fstF s l).isSome := by unfold fsB; simp only; rw [decF_gC, L_bs]
theorem n_stat (l : List Fl) (b : Bool) (o : Ob) : statR ⟨gC enF l, b, o⟩ = (statL l : Nat) := by unfold statR; simp only; rw [decF_gC]
theorem n_own (l : List Fl) (b : Bool) (o : Ob) (s : ByteArray) : ownR ⟨gC enF l, b, o⟩ s = ownL l (L s) := by unfold ownR; simp only; rw [decF_gC]
theorem n_stor (l : List Fl) (b : Bool) (o : Ob) (s : ByteArray) : storR ⟨gC enF l, b, o⟩ s = storL l (L s) := by unfold storR; simp only; rw [decF_gC]
theorem digF_cons (c : UInt8) (r : List UInt8) (n : Nat) : digF (c :: r) n = if isDg c then digF r (n * 10 + (c.toNat - 48)) else none := by rw [digF]
theorem st_fin (t : List UInt8) (l : List Fl) (n i : Nat) (hg : t.length = 3) (h1 : i ≤ 3) (h2 : n < 10 ^ i) (h3 : digF t 0 = digF (t.drop i) n) : br (decide ((i : Int) < 3))
    (br (decide (0 ≤ (i : Int) ∧ (i : Int) < (t.length : Int)))
      (br (decide (byteAt (bs t) i < 48)) (∃ y : Nat, (digF t 0 = none ∧ y = 0) ∧ (y : Int) = 0 ∧ Plain (gC enF l))
        (br (decide (0 ≤ (i : Int) ∧ (i : Int) < (t.length : Int)))
          (br (decide (byteAt (bs t) i > 57)) (∃ y : Nat, (digF t 0 = none ∧ y = 0) ∧ (y : Int) = 0 ∧ Plain (gC enF l))
            (br (decide (0 ≤ (i : Int) ∧ (i : Int) < (t.length : Int)))
              (∃ j : StSt, (j.i ≤ 3 ∧ j.n < 10 ^ j.i ∧ digF t 0 = digF (List.drop j.i t) j.n) ∧
                  3 - j.i < 3 - i ∧
                    (j.n : Int) = IntKind.i64.wrap (IntKind.i64.wrap ((n : Int) * 10) + IntKind.i64.wrap (IntKind.u8.wrap (byteAt (bs t) i - 48))) ∧
                      (j.i : Int) = IntKind.i64.wrap ((i : Int) + 1) ∧ Plain (gC enF l))
              False))
          False))
      False)
    (∃ y : Nat, digF t 0 = some y ∧ (y : Int) = (n : Int) ∧ Plain (gC enF l)) := by
  refine br_if (fun h => br_dec (by omega) ?_) (fun h => ⟨n, ?_, rfl, fPl l⟩)
  rotate_left
  · rw [h3, List.drop_eq_nil_of_le (by omega)]; rfl
  have hi : i < t.length := by omega
  rw [List.drop_eq_getElem_cons hi, digF_cons] at h3
  rw [byteAt_bs hi]
  generalize t[i] = c at *
  have hb := c.toNat_lt
  refine br_if (fun k => ⟨0, ⟨?_, rfl⟩, rfl, fPl l⟩) (fun k => br_dec (by omega) (br_if (fun k2 => ⟨0, ⟨?_, rfl⟩, rfl, fPl l⟩) (fun k2 => br_dec (by omega) ?_)))
  · rw [h3, if_neg (by unfold isDg; simp; omega)]
  · rw [h3, if_neg (by unfold isDg; simp; omega)]
  · have hc : isDg c = true := by unfold isDg; simp; omega
    rw [if_pos hc] at h3
    have b10 : 10 ^ (i + 1) = 10 ^ i * 10 := Nat.pow_succ 10 i
    have b100 : 10 ^ i ≤ 10 ^ 2 := Nat.pow_le_pow_right (by omega) (by omega)
    have w1 : IntKind.u8.wrap ((c.toNat : Int) - 48) = ((c.toNat - 48 : Nat) : Int) := by
      rw [show ((c.toNat : Int) - 48) = ((c.toNat - 48 : Nat) : Int) by omega, wru8_nat (by omega)]
    have w2 : IntKind.i64.wrap ((c.toNat - 48 : Nat) : Int) = ((c.toNat - 48 : Nat) : Int) := wr64_id (by unfold I64; omega)
    have w3 : IntKind.i64.wrap ((n : Int) * 10) = ((n * 10 : Nat) : Int) := by rw [wr64_id (by unfold I64; omega)]; omega
    have w4 : IntKind.i64.wrap (((n * 10 : Nat) : Int) + ((c.toNat - 48 : Nat) : Int)) = ((n * 10 + (c.toNat - 48) : Nat) : Int) := by rw [wr64_id (by unfold I64; omega)]; omega
    rw [w1, w2, w3, w4]
    exact ⟨⟨n * 10 + (c.toNat - 48), i + 1⟩, ⟨by simp only; omega, by simp only; omega, h3⟩, by simp only; omega, rfl, (i64_succ (by omega)).symm, fPl l⟩
theorem own_tail (l : List Fl) (b : List UInt8) (e : ((statL l : Nat) : Int) = 502 ∨ ((statL l : Nat) : Int) = 503 ∨ ((statL l : Nat) : Int) = 504) :
    br (fstF sCoLe l).isSome (br (decide (fsL sCoLe l = [48])) (br ((l.length : Int) == 2) (ownL l b = decide (b = [])) (ownL l b = false)) (ownL l b = false)) (ownL l b = false) := by
  have e1 : (decide (statL l = 502) || decide (statL l = 503) || decide (statL l = 504)) = true := by simp; omega
  have eo : ownL l b = (decide (l.length = 2) && decide (fsL sCoLe l = [48]) && decide (b = [])) := by unfold ownL; rw [e1, Bool.true_and]
  refine br_intro (fun h => br_if (fun h2 => br_intro (fun h3 => ?_) (fun h3 => ?_)) (fun h2 => ?_)) (fun h => ?_)
  · rw [eo, h2, decide_eq_true (by simp at h3; omega)]; simp
  · rw [eo, decide_eq_false (by simp at h3; omega)]; rfl
  · rw [eo, decide_eq_false h2]; simp
  · have : ¬ fsL sCoLe l = [48] := fun e => by unfold fsL at e; cases hf : fstF sCoLe l <;> simp_all
    rw [eo, decide_eq_false this]; simp
theorem Va_piece : PieceOk E0 1 (11, pVa, specVa) := by
  refine piece_loop mixed (calls_envN _) (lok_envN _) lm_none (n := 60) (by kernel_rfl) (fun _ : GVa => (0 : Nat)) (fun g i => i ≤ g.l.length ∧ fstF g.nm g.l = fstF g.nm (g.l.drop i)) (fun g i => g.l.length - i) (sl := slVa) (rl := fun g _ => rlVa g) (fun g hg => ⟨Nat.zero_le _, rfl⟩) (fun g i hg hi => ?_)
  refine (Va_round g i _ _).mpr ?_
  obtain ⟨h1, h2⟩ := hi
  have hm : maxLen = 9223372036854775807 := by unfold maxLen; rfl
  have hg : g.l.length ≤ maxLen := hg
  simp only [ofNat_eq, toNat_cast, Nat.zero_add, Nat.add_zero, Nat.mul_one, List.drop_zero, bCells_len, bCells_drop, bCells_take, bCells_app, bCells_one, bCells_plain, List.length_replicate, List.length_append, List.length_take, List.length_drop, List.take_length, and_true, true_and, and_self, decide_true, List.length_nil, List.length_cons, Nat.sub_zero, dB_mk, dB_ro, List.take_zero, fPl, fLen, fTake]
  refine br_if (fun h => br_dec (by omega) ?_) (fun h => ⟨(), ?_⟩)
  rotate_left
  · rw [h2, List.drop_eq_nil_of_le (by omega)]; rfl
  have hi : i < g.l.length := by omega
  obtain ⟨c1, c2, c3, c4⟩ := fGet g.l i hi
  have w := i64_succ (show i < 9223372036854775807 by omega)
  have hd := fstF_drop g.nm g.l i hi
  simp only [c1, c2, c3, c4, w, true_and, strEq_bs]
  refine br_if (fun k => ⟨(), ?_, ?_⟩) (fun k => ⟨i + 1, ⟨by omega, ?_⟩, by omega, rfl⟩)
  · rw [h2, hd, if_pos k]; rfl
  · unfold fsL; rw [h2, hd, if_pos k]; rfl
  · rw [h2, hd, if_neg k]
theorem Va_con (y : TkY) (l : List Fl) (nm : List UInt8) (hl : l.length ≤ maxLen) : Con Try.prog 11 [.agg ⟨tkCy y 0 l.length⟩, .string (bs nm)] [gRo enF l] (.tuple #[.string (bs (fsL nm l)), .bool (fstF nm l).isSome]) [gRo enF l] := by
  refine con_vc (E := E0) mixed (calls_envN _) (lok_envN _) (M := mVa) (lm_one Va_piece) (Va_vc y l nm _ _) ?_
  simp only [ofNat_eq, toNat_cast, Nat.zero_add, Nat.add_zero, Nat.mul_one, List.drop_zero, bCells_len, bCells_drop, bCells_take, bCells_app, bCells_one, bCells_plain, List.length_replicate, List.length_append, List.length_take, List.length_drop, List.take_length, and_true, true_and, and_self, decide_true, List.length_nil, List.length_cons, Nat.sub_zero, dB_mk, dB_ro, List.take_zero, fPl, fLen, fTake]
  have hm : maxLen = 9223372036854775807 := by unfold maxLen; rfl
  refine ⟨⟨l, nm, y⟩, by simp only; omega, rfl, rfl, rfl, rfl, br_side (fun _ h => ?_) (fun _ h => ?_)⟩
  · simp only at h
    exact ⟨by unfold fsL; rw [h]; rfl, by rw [h]; rfl, rfl⟩
  · exact ⟨rfl, h, rfl⟩
theorem St_piece : PieceOk E0 1 (9, pSt, specSt) := by
  refine piece_loop mixed (calls_envN _) (lok_envN _) lm_none (n := 60) (by kernel_rfl) (fun _ : GSt => (⟨0, 0⟩ : StSt)) (fun g s => s.i ≤ 3 ∧ s.n < 10 ^ s.i ∧ digF g.t 0 = digF (g.t.drop s.i) s.n) (fun g s => 3 - s.i) (sl := slSt) (rl := fun g _ => [(0, gRo enF g.l)]) (fun g hg => ⟨Nat.zero_le _, by decide, rfl⟩) (fun g s hg hi => ?_)
  refine (St_round g s _ _).mpr ?_
  obtain ⟨n, i⟩ := s
  obtain ⟨h1, h2, h3⟩ := hi
  have hg : g.t.length = 3 := hg
  simp only at h1 h2 h3
  simp only [ofNat_eq, toNat_cast, Nat.zero_add, Nat.add_zero, Nat.mul_one, List.drop_zero, bCells_len, bCells_drop, bCells_take, bCells_app, bCells_one, bCells_plain, List.length_replicate, List.length_append, List.length_take, List.length_drop, List.take_length, and_true, true_and, and_self, decide_true, List.length_nil, List.length_cons, Nat.sub_zero, dB_mk, dB_ro, List.take_zero, bs_dd]
  exact st_fin g.t g.l n i hg h1 h2 h3
theorem eVa_ok : EntOk Try.prog eVa := entC_ok (by
  intro a rows p v news h hp
  split at h <;> simp only [Option.some.injEq, Prod.mk.injEq, reduceCtorEq] at h
  obtain ⟨rfl, rfl, rfl⟩ := h
  obtain ⟨⟨l, rfl, rfl⟩, h1⟩ := hp
  simp only [fsV, fsB, dF, List.append_nil]
  exact Va_con ⟨_, _, _, _, _, _, _, _⟩ l (L _) h1)
theorem tV_ok : ∀ x ∈ tV, EntOk Try.prog x := all_cons eVa_ok (all_nil)
theorem St_con (y : TkY) (l : List Fl) (hl : l.length ≤ maxLen) : Con Try.prog 9 [.agg ⟨tkCy y 0 l.length⟩] [gRo enF l] (.int .i64 (statL l : Nat)) [gRo enF l] := by
  refine con_vc (E := EtV) mixed (calls_envT tV_ok) (lok_envT _ _) (M := mSt) (lm_one St_piece) (St_vc y l _) ?_
  simp only [ofNat_eq, toNat_cast, Nat.zero_add, Nat.add_zero, Nat.mul_one, List.drop_zero, bCells_len, bCells_drop, bCells_take, bCells_app, bCells_one, bCells_plain, List.length_replicate, List.length_append, List.length_take, List.length_drop, List.take_length, and_true, true_and, and_self, decide_true, List.length_nil, List.length_cons, Nat.sub_zero, dB_mk, dB_ro, List.take_zero, fPl, fLen, fTake]
  have hm : maxLen = 9223372036854775807 := by unfold maxLen; rfl
  have q : (⟨#[58, 115, 116, 97, 116, 117, 115]⟩ : ByteArray) = bs sStat := rfl
  simp only [q, n_fsV, isF_eq, bs_dd]
  refine ⟨⟨Nat.le_refl _, trivial, by omega⟩, br_intro (fun h => ?_) (fun h => ?_)⟩
  · unfold statL stN; rw [if_neg (by simp at h; omega)]; rfl
  · have h : (fsL sStat l).length = 3 := by simp at h; omega
    refine ⟨⟨fsL sStat l, l⟩, h, rfl, by omega, rfl, br_side (fun y2 h2 => ⟨?_, rfl⟩) (fun y2 h2 => ⟨?_, rfl⟩)⟩
    · unfold statL stN; rw [if_pos h, h2]; rfl
    · unfold statL stN; rw [if_pos h, h2.1, h2.2]; rfl
theorem eSt_ok : EntOk Try.prog eSt := entC_ok (by
  intro a rows p v news h hp
  split at h <;> simp only [Option.some.injEq, Prod.mk.injEq, reduceCtorEq] at h
  obtain ⟨rfl, rfl, rfl⟩ := h
  obtain ⟨⟨l, rfl, rfl⟩, h1⟩ := hp
  simp only [statR, dF, List.append_nil]
  exact St_con ⟨_, _, _, _, _, _, _, _⟩ l h1)
theorem tOw_ok : ∀ x ∈ tOw, EntOk Try.prog x := all_cons eVa_ok (all_cons eSt_ok (all_nil))
theorem Ow_con (y : TkY) (l : List Fl) (hl : l.length ≤ maxLen) : Con Try.prog 14 [.agg ⟨tkCy y 0 l.length⟩] [gRo enF l] (.bool (ownL l (L y.b))) [gRo enF l] := by
  refine con_vc (E := EtOw) mixed (calls_envT tOw_ok) (lok_envT _ _) (M := noM) lm_none (Ow_vc y l _) ?_
  simp only [ofNat_eq, toNat_cast, Nat.zero_add, Nat.add_zero, Nat.mul_one, List.drop_zero, bCells_len, bCells_drop, bCells_take, bCells_app, bCells_one, bCells_plain, List.length_replicate, List.length_append, List.length_take, List.length_drop, List.take_length, and_true, true_and, and_self, decide_true, List.length_nil, List.length_cons, Nat.sub_zero, dB_mk, dB_ro, List.take_zero, fPl, fLen, fTake]
  have hm : maxLen = 9223372036854775807 := by unfold maxLen; rfl
  have q : (⟨#[99, 111, 110, 116, 101, 110, 116, 45, 108, 101, 110, 103, 116, 104]⟩ : ByteArray) = bs sCoLe := rfl
  have q0 : (⟨#[]⟩ : ByteArray) = bs [] := rfl
  have q1 : (⟨#[48]⟩ : ByteArray) = bs [48] := rfl
  obtain ⟨b, hb⟩ : ∃ b, y.b = bs b := ⟨L y.b, rfl⟩
  simp only [q, q0, q1, hb, n_fsV, n_fsB, n_stat, isF_eq, bs_dd, L_bse, strEq_bs]
  have z : (fstF sCoLe l).isSome = false → ¬ fsL sCoLe l = [48] := fun h e => by unfold fsL at e; cases hf : fstF sCoLe l <;> simp_all
  have key := fun (v : Bool) (e : ((statL l : Nat) : Int) = 502 ∨ ((statL l : Nat) : Int) = 503 ∨ ((statL l : Nat) : Int) = 504) => own_tail l b e
  refine ⟨⟨Nat.le_refl _, trivial, by omega⟩, br_intro (fun h => ⟨⟨Nat.le_refl _, trivial, by omega⟩, key true (by simp at h; omega)⟩) (fun h => br_intro (fun h2 => ⟨⟨Nat.le_refl _, trivial, by omega⟩, key true (by simp at h2; omega)⟩) (fun h2 => br_intro (fun h3 => ⟨⟨Nat.le_refl _, trivial, by omega⟩, key true (by simp at h3; omega)⟩) (fun h3 => ?_)))⟩
  simp at h h2 h3
  unfold ownL
  rw [decide_eq_false (by omega), decide_eq_false (by omega), decide_eq_false (by omega)]; rfl
theorem eOw_ok : EntOk Try.prog eOw := entC_ok (by
  intro a rows p v news h hp
  split at h <;> simp only [Option.some.injEq, Prod.mk.injEq, reduceCtorEq] at h
  obtain ⟨rfl, rfl, rfl⟩ := h
  obtain ⟨⟨l, rfl, rfl⟩, h1⟩ := hp
  simp only [ownR, dF, List.append_nil]
  exact Ow_con ⟨_, _, _, _, _, _, _, _⟩ l h1)
theorem tSd_ok : ∀ x ∈ tSd, EntOk Try.prog x := all_cons eVa_ok (all_cons eOw_ok (all_nil))
theorem Sd_con (y : TkY) (l : List Fl) (hl : l.length ≤ maxLen) : Con Try.prog 15 [.agg ⟨tkCy y 0 l.length⟩] [gRo enF l] (.bool (storL l (L y.b))) [gRo enF l] := by
  refine con_vc (E := EtSd) mixed (calls_envT tSd_ok) (lok_envT _ _) (M := noM) lm_none (Sd_vc y l _) ?_
  simp only [ofNat_eq, toNat_cast, Nat.zero_add, Nat.add_zero, Nat.mul_one, List.drop_zero, bCells_len, bCells_drop, bCells_take, bCells_app, bCells_one, bCells_plain, List.length_replicate, List.length_append, List.length_take, List.length_drop, List.take_length, and_true, true_and, and_self, decide_true, List.length_nil, List.length_cons, Nat.sub_zero, dB_mk, dB_ro, List.take_zero, fPl, fLen, fTake]
  have hm : maxLen = 9223372036854775807 := by unfold maxLen; rfl
  have q : (⟨#[97, 103, 101]⟩ : ByteArray) = bs sAge := rfl
  have q0 : (⟨#[118, 105, 97]⟩ : ByteArray) = bs sVia := rfl
  have q1 : (⟨#[50, 32, 114, 101, 115, 101, 114, 118, 111, 105, 114]⟩ : ByteArray) = bs sRes := rfl
  obtain ⟨b, hb⟩ : ∃ b, y.b = bs b := ⟨L y.b, rfl⟩
  simp only [q, q0, q1, hb, n_fsV, n_fsB, n_own, isF_eq, bs_dd, L_bse, strEq_bs]
  refine ⟨⟨Nat.le_refl _, trivial, by omega⟩, ⟨Nat.le_refl _, trivial, by omega⟩, br_intro (fun h => br_if (fun h2 => ⟨⟨Nat.le_refl _, trivial, by omega⟩, ?_⟩) (fun h2 => ?_)) (fun h => ?_)⟩
  · unfold storL; rw [h, decide_eq_true h2]; rfl
  · unfold storL; rw [h, decide_eq_false h2]; rfl
  · unfold storL; rw [h]; rfl
end Go.Proofs.Ytgfidcdkjnnlgaa.tk
