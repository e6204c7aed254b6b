/- What fields cache-control say. -/
import Derived.Test.YtideeogedleabaaSz9
import Derived.Test.YtideeogedleabaaRows
import Derived.Test.YtideeogedleabaaLctSec
import Derived.Test.YtideeogedleabaaLtkPairs
set_option maxRecDepth 20000
set_option linter.unusedSimpArgs false
set_option linter.unusedVariables false
namespace Go.Proofs.Ytideeogedleabaa.tk
open Go Go.Ev Go.Sy Go.RowKit Go.Proofs.Ytideeogedleabaa.gl
def cCo : FuncId → List Value → List Row → Option (Prop × Value × List Row)
  | 44, [.slice (some ⟨0, 0, none⟩) n 2, .string s], [r0] => some (IsF r0 n ∧ n ≤ maxLen ∧ alB r0 s ≤ 16777000, .slice (some ⟨1, 0, none⟩) (prN r0 s) 3, [⟨prC r0 s, false, .cells true⟩])
  | 49, [.string s], [] => some ((L s).length ≤ maxLen, .int .i64 (secS s), [])
  | _, _, _ => none
noncomputable abbrev ECo : Env := envC Try.prog cCo (fun f => Nat.beq f 44 || Nat.beq f 49)
def pCo : List Nat := [0, 1, 0, 1, 1]
def pCo5 : List Nat := [0, 1, 0, 0, 1, 1, 0, 0, 1, 0, 1, 1]
def pCo6 : List Nat := [1, 1, 0, 0, 1, 1, 0, 0, 1, 0, 1, 1]
structure GCo where
  l : List Fl
  ps : List Pr
structure StCo where
  c : Ct
  i : Nat
structure G5 where
  g : GCo
  c : Ct
  p : Pr
  i : Nat
def ctRow (c : Ct) : Row := ⟨enC c, false, .cells false⟩
def slCo (g : GCo) (s : StCo) : List (Nat × Value) := [(2, .pointer (some ⟨1, 0, none⟩)), (3, .pointer (some ⟨2, 0, none⟩)), (8, .slice (some ⟨3, 0, none⟩) g.ps.length 3), (9, .int .i64 (g.ps.length : Nat)), (10, .int .i64 (s.i : Nat))]
def rlCo (g : GCo) (s : StCo) : List (Nat × Row) := [(0, gRo enF g.l), (1, ctRow cz), (2, ctRow s.c), (3, gOwn enP g.ps)]
def wsCo (g : GCo) : List (Gate Unit) := [⟨.exit 0, fun _ => True, fun _ => [(2, .pointer (some ⟨1, 0, none⟩)), (3, .pointer (some ⟨2, 0, none⟩))], fun _ => [(0, gRo enF g.l), (1, ctRow cz), (2, ctRow (ctlP g.ps))], 3⟩]
def specCo : Sy.Spec := specOf 1 4 21 (fun g : GCo => g.ps.length ≤ maxLen ∧ ∀ p ∈ g.ps, p.v.length ≤ maxLen) (fun g => slCo g ⟨c0, 0⟩) (fun g => rlCo g ⟨c0, 0⟩) wsCo
def sl5 (g : G5) : List (Nat × Value) := (5, .pointer (some ⟨4, 0, none⟩)) :: slCo g.g ⟨g.c, g.i⟩
def rl5 (g : G5) : List (Nat × Row) := [(0, gRo enF g.g.l), (1, ctRow cz), (2, ctRow g.c), (3, gOwn enP g.g.ps), (4, ⟨enP g.p, false, .cells false⟩)]
def ws5 (g : G5) : List (Gate Unit) := [⟨.normal, fun _ => True, fun _ => sl5 ⟨g.g, flagC g.c g.p.n, g.p, g.i⟩, fun _ => rl5 ⟨g.g, flagC g.c g.p.n, g.p, g.i⟩, 5⟩]
def ws6 (g : G5) : List (Gate Unit) := [⟨.normal, fun _ => True, fun _ => sl5 ⟨g.g, numC g.c g.p, g.p, g.i⟩, fun _ => rl5 ⟨g.g, numC g.c g.p, g.p, g.i⟩, 5⟩]
def spec5 : Sy.Spec := specOf 1 5 21 (fun _ : G5 => True) sl5 rl5 ws5
def spec6 : Sy.Spec := specOf 1 5 21 (fun g : G5 => g.p.v.length ≤ maxLen) sl5 rl5 ws6
def m56 := mOf [(22, pCo5, spec5), (22, pCo6, spec6)]
def mCo := mOf [(22, pCo, specCo)]
theorem five_vc (g : G5) : mev ECo noM 60 22 pCo5 false (codeOf Try.prog 22 pCo5) ⟨mkOv (sl5 g), 21, []⟩ none ⟨mkR (rl5 g), 5⟩ (Go.Sy.endsIn 1 21 (ws5 g)) =
  (br (strEq (bs g.3.1) (ByteArray.mk #[110, 111, 45, 115, 116, 111, 114, 101])) (∃ y : Unit, ((True) /\ ((0 = 0) /\ ((0 = 0) /\ ((0 = 0) /\ ((0 = 0) /\ ((List.length g.1.2
  = List.length g.1.2) /\ (((↑(List.length g.1.2) : Int) = (↑(List.length g.1.2) : Int)) /\ (((↑g.4 : Int) = (↑g.4 : Int)) /\ ((Eq (α := List Value) (gC enF g.1.1) (gC enF
  g.1.1)) /\ ((Plain (gC enF g.1.1)) /\ ((false = false) /\ ((false = false) /\ ((false = false) /\ ((false = false) /\ ((false = false) /\ ((false = false) /\ (((0 : Int) =
  (0 : Int)) /\ (((0 : Int) = (0 : Int)) /\ (((0 : Int) = (0 : Int)) /\ (((0 : Int) = (0 : Int)) /\ (((g.2.1 || decide (g.3.1 = [110, 111, 45, 115, 116, 111, 114, 101])) =
  true) /\ (((g.2.2 || decide (g.3.1 = [110, 111, 45, 99, 97, 99, 104, 101])) = g.2.2) /\ (((g.2.3 || decide (g.3.1 = [112, 114, 105, 118, 97, 116, 101])) = g.2.3) /\
  (((g.2.4 || decide (g.3.1 = [112, 117, 98, 108, 105, 99])) = g.2.4) /\ (((g.2.5 || (decide (g.3.1 = [109, 117, 115, 116, 45, 114, 101, 118, 97, 108, 105, 100, 97, 116,
  101]) || decide (g.3.1 = [112, 114, 111, 120, 121, 45, 114, 101, 118, 97, 108, 105, 100, 97, 116, 101]))) = g.2.5) /\ (((g.2.6 || decide (g.3.1 = [111, 110, 108, 121, 45,
  105, 102, 45, 99, 97, 99, 104, 101, 100])) = g.2.6) /\ ((g.2.7 = g.2.7) /\ ((g.2.8 = g.2.8) /\ ((g.2.9 = g.2.9) /\ ((g.2.10 = g.2.10) /\ ((Eq (α := List Value) (gC enP
  g.1.2) (gC enP g.1.2)) /\ ((Plain (gC enP g.1.2)) /\ ((bs g.3.1 = bs g.3.1) /\ ((bs g.3.2 = bs g.3.2) /\ ((g.3.3 = g.3.3) /\ True)))))))))))))))))))))))))))))))))))) (br
  (strEq (bs g.3.1) (ByteArray.mk #[110, 111, 45, 99, 97, 99, 104, 101])) (∃ y : Unit, ((True) /\ ((0 = 0) /\ ((0 = 0) /\ ((0 = 0) /\ ((0 = 0) /\ ((List.length g.1.2 =
  List.length g.1.2) /\ (((↑(List.length g.1.2) : Int) = (↑(List.length g.1.2) : Int)) /\ (((↑g.4 : Int) = (↑g.4 : Int)) /\ ((Eq (α := List Value) (gC enF g.1.1) (gC enF
  g.1.1)) /\ ((Plain (gC enF g.1.1)) /\ ((false = false) /\ ((false = false) /\ ((false = false) /\ ((false = false) /\ ((false = false) /\ ((false = false) /\ (((0 : Int) =
  (0 : Int)) /\ (((0 : Int) = (0 : Int)) /\ (((0 : Int) = (0 : Int)) /\ (((0 : Int) = (0 : Int)) /\ (((g.2.1 || decide (g.3.1 = [110, 111, 45, 115, 116, 111, 114, 101])) =
  g.2.1) /\ (((g.2.2 || decide (g.3.1 = [110, 111, 45, 99, 97, 99, 104, 101])) = true) /\ (((g.2.3 || decide (g.3.1 = [112, 114, 105, 118, 97, 116, 101])) = g.2.3) /\
  (((g.2.4 || decide (g.3.1 = [112, 117, 98, 108, 105, 99])) = g.2.4) /\ (((g.2.5 || (decide (g.3.1 = [109, 117, 115, 116, 45, 114, 101, 118, 97, 108, 105, 100, 97, 116,
  101]) || decide (g.3.1 = [112, 114, 111, 120, 121, 45, 114, 101, 118, 97, 108, 105, 100, 97, 116, 101]))) = g.2.5) /\ (((g.2.6 || decide (g.3.1 = [111, 110, 108, 121, 45,
  105, 102, 45, 99, 97, 99, 104, 101, 100])) = g.2.6) /\ ((g.2.7 = g.2.7) /\ ((g.2.8 = g.2.8) /\ ((g.2.9 = g.2.9) /\ ((g.2.10 = g.2.10) /\ ((Eq (α := List Value) (gC enP
  g.1.2) (gC enP g.1.2)) /\ ((Plain (gC enP g.1.2)) /\ ((bs g.3.1 = bs g.3.1) /\ ((bs g.3.2 = bs g.3.2) /\ ((g.3.3 = g.3.3) /\ True)))))))))))))))))))))))))))))))))))) (br
  (strEq (bs g.3.1) (ByteArray.mk #[112, 114, 105, 118, 97, 116, 101])) (∃ y : Unit, ((True) /\ ((0 = 0) /\ ((0 = 0) /\ ((0 = 0) /\ ((0 = 0) /\ ((List.length g.1.2 =
  List.length g.1.2) /\ (((↑(List.length g.1.2) : Int) = (↑(List.length g.1.2) : Int)) /\ (((↑g.4 : Int) = (↑g.4 : Int)) /\ ((Eq (α := List Value) (gC enF g.1.1) (gC enF
  g.1.1)) /\ ((Plain (gC enF g.1.1)) /\ ((false = false) /\ ((false = false) /\ ((false = false) /\ ((false = false) /\ ((false = false) /\ ((false = false) /\ (((0 : Int) =
  (0 : Int)) /\ (((0 : Int) = (0 : Int)) /\ (((0 : Int) = (0 : Int)) /\ (((0 : Int) = (0 : Int)) /\ (((g.2.1 || decide (g.3.1 = [110, 111, 45, 115, 116, 111, 114, 101])) =
  g.2.1) /\ (((g.2.2 || decide (g.3.1 = [110, 111, 45, 99, 97, 99, 104, 101])) = g.2.2) /\ (((g.2.3 || decide (g.3.1 = [112, 114, 105, 118, 97, 116, 101])) = true) /\
  (((g.2.4 || decide (g.3.1 = [112, 117, 98, 108, 105, 99])) = g.2.4) /\ (((g.2.5 || (decide (g.3.1 = [109, 117, 115, 116, 45, 114, 101, 118, 97, 108, 105, 100, 97, 116,
  101]) || decide (g.3.1 = [112, 114, 111, 120, 121, 45, 114, 101, 118, 97, 108, 105, 100, 97, 116, 101]))) = g.2.5) /\ (((g.2.6 || decide (g.3.1 = [111, 110, 108, 121, 45,
  105, 102, 45, 99, 97, 99, 104, 101, 100])) = g.2.6) /\ ((g.2.7 = g.2.7) /\ ((g.2.8 = g.2.8) /\ ((g.2.9 = g.2.9) /\ ((g.2.10 = g.2.10) /\ ((Eq (α := List Value) (gC enP
  g.1.2) (gC enP g.1.2)) /\ ((Plain (gC enP g.1.2)) /\ ((bs g.3.1 = bs g.3.1) /\ ((bs g.3.2 = bs g.3.2) /\ ((g.3.3 = g.3.3) /\ True)))))))))))))))))))))))))))))))))))) (br
  (strEq (bs g.3.1) (ByteArray.mk #[112, 117, 98, 108, 105, 99])) (∃ y : Unit, ((True) /\ ((0 = 0) /\ ((0 = 0) /\ ((0 = 0) /\ ((0 = 0) /\ ((List.length g.1.2 = List.length
  g.1.2) /\ (((↑(List.length g.1.2) : Int) = (↑(List.length g.1.2) : Int)) /\ (((↑g.4 : Int) = (↑g.4 : Int)) /\ ((Eq (α := List Value) (gC enF g.1.1) (gC enF g.1.1)) /\
  ((Plain (gC enF g.1.1)) /\ ((false = false) /\ ((false = false) /\ ((false = false) /\ ((false = false) /\ ((false = false) /\ ((false = false) /\ (((0 : Int) = (0 : Int))
  /\ (((0 : Int) = (0 : Int)) /\ (((0 : Int) = (0 : Int)) /\ (((0 : Int) = (0 : Int)) /\ (((g.2.1 || decide (g.3.1 = [110, 111, 45, 115, 116, 111, 114, 101])) = g.2.1) /\
  (((g.2.2 || decide (g.3.1 = [110, 111, 45, 99, 97, 99, 104, 101])) = g.2.2) /\ (((g.2.3 || decide (g.3.1 = [112, 114, 105, 118, 97, 116, 101])) = g.2.3) /\ (((g.2.4 ||
  decide (g.3.1 = [112, 117, 98, 108, 105, 99])) = true) /\ (((g.2.5 || (decide (g.3.1 = [109, 117, 115, 116, 45, 114, 101, 118, 97, 108, 105, 100, 97, 116, 101]) || decide
  (g.3.1 = [112, 114, 111, 120, 121, 45, 114, 101, 118, 97, 108, 105, 100, 97, 116, 101]))) = g.2.5) /\ (((g.2.6 || decide (g.3.1 = [111, 110, 108, 121, 45, 105, 102, 45,
  99, 97, 99, 104, 101, 100])) = g.2.6) /\ ((g.2.7 = g.2.7) /\ ((g.2.8 = g.2.8) /\ ((g.2.9 = g.2.9) /\ ((g.2.10 = g.2.10) /\ ((Eq (α := List Value) (gC enP g.1.2) (gC enP
  g.1.2)) /\ ((Plain (gC enP g.1.2)) /\ ((bs g.3.1 = bs g.3.1) /\ ((bs g.3.2 = bs g.3.2) /\ ((g.3.3 = g.3.3) /\ True)))))))))))))))))))))))))))))))))))) (br (strEq (bs
  g.3.1) (ByteArray.mk #[111, 110, 108, 121, 45, 105, 102, 45, 99, 97, 99, 104, 101, 100])) (∃ y : Unit, ((True) /\ ((0 = 0) /\ ((0 = 0) /\ ((0 = 0) /\ ((0 = 0) /\
  ((List.length g.1.2 = List.length g.1.2) /\ (((↑(List.length g.1.2) : Int) = (↑(List.length g.1.2) : Int)) /\ (((↑g.4 : Int) = (↑g.4 : Int)) /\ ((Eq (α := List Value) (gC
  enF g.1.1) (gC enF g.1.1)) /\ ((Plain (gC enF g.1.1)) /\ ((false = false) /\ ((false = false) /\ ((false = false) /\ ((false = false) /\ ((false = false) /\ ((false =
  false) /\ (((0 : Int) = (0 : Int)) /\ (((0 : Int) = (0 : Int)) /\ (((0 : Int) = (0 : Int)) /\ (((0 : Int) = (0 : Int)) /\ (((g.2.1 || decide (g.3.1 = [110, 111, 45, 115,
  116, 111, 114, 101])) = g.2.1) /\ (((g.2.2 || decide (g.3.1 = [110, 111, 45, 99, 97, 99, 104, 101])) = g.2.2) /\ (((g.2.3 || decide (g.3.1 = [112, 114, 105, 118, 97, 116,
  101])) = g.2.3) /\ (((g.2.4 || decide (g.3.1 = [112, 117, 98, 108, 105, 99])) = g.2.4) /\ (((g.2.5 || (decide (g.3.1 = [109, 117, 115, 116, 45, 114, 101, 118, 97, 108,
  105, 100, 97, 116, 101]) || decide (g.3.1 = [112, 114, 111, 120, 121, 45, 114, 101, 118, 97, 108, 105, 100, 97, 116, 101]))) = g.2.5) /\ (((g.2.6 || decide (g.3.1 = [111,
  110, 108, 121, 45, 105, 102, 45, 99, 97, 99, 104, 101, 100])) = true) /\ ((g.2.7 = g.2.7) /\ ((g.2.8 = g.2.8) /\ ((g.2.9 = g.2.9) /\ ((g.2.10 = g.2.10) /\ ((Eq (α := List
  Value) (gC enP g.1.2) (gC enP g.1.2)) /\ ((Plain (gC enP g.1.2)) /\ ((bs g.3.1 = bs g.3.1) /\ ((bs g.3.2 = bs g.3.2) /\ ((g.3.3 = g.3.3) /\
  True)))))))))))))))))))))))))))))))))))) (br (strEq (bs g.3.1) (ByteArray.mk #[109, 117, 115, 116, 45, 114, 101, 118, 97, 108, 105, 100, 97, 116, 101])) (∃ y : Unit,
  ((True) /\ ((0 = 0) /\ ((0 = 0) /\ ((0 = 0) /\ ((0 = 0) /\ ((List.length g.1.2 = List.length g.1.2) /\ (((↑(List.length g.1.2) : Int) = (↑(List.length g.1.2) : Int)) /\
  (((↑g.4 : Int) = (↑g.4 : Int)) /\ ((Eq (α := List Value) (gC enF g.1.1) (gC enF g.1.1)) /\ ((Plain (gC enF g.1.1)) /\ ((false = false) /\ ((false = false) /\ ((false =
  false) /\ ((false = false) /\ ((false = false) /\ ((false = false) /\ (((0 : Int) = (0 : Int)) /\ (((0 : Int) = (0 : Int)) /\ (((0 : Int) = (0 : Int)) /\ (((0 : Int) = (0
  : Int)) /\ (((g.2.1 || decide (g.3.1 = [110, 111, 45, 115, 116, 111, 114, 101])) = g.2.1) /\ (((g.2.2 || decide (g.3.1 = [110, 111, 45, 99, 97, 99, 104, 101])) = g.2.2) /\
  (((g.2.3 || decide (g.3.1 = [112, 114, 105, 118, 97, 116, 101])) = g.2.3) /\ (((g.2.4 || decide (g.3.1 = [112, 117, 98, 108, 105, 99])) = g.2.4) /\ (((g.2.5 || (decide
  (g.3.1 = [109, 117, 115, 116, 45, 114, 101, 118, 97, 108, 105, 100, 97, 116, 101]) || decide (g.3.1 = [112, 114, 111, 120, 121, 45, 114, 101, 118, 97, 108, 105, 100, 97,
  116, 101]))) = true) /\ (((g.2.6 || decide (g.3.1 = [111, 110, 108, 121, 45, 105, 102, 45, 99, 97, 99, 104, 101, 100])) = g.2.6) /\ ((g.2.7 = g.2.7) /\ ((g.2.8 = g.2.8) /\
  ((g.2.9 = g.2.9) /\ ((g.2.10 = g.2.10) /\ ((Eq (α := List Value) (gC enP g.1.2) (gC enP g.1.2)) /\ ((Plain (gC enP g.1.2)) /\ ((bs g.3.1 = bs g.3.1) /\ ((bs g.3.2 = bs
  g.3.2) /\ ((g.3.3 = g.3.3) /\ True)))))))))))))))))))))))))))))))))))) (br (strEq (bs g.3.1) (ByteArray.mk #[112, 114, 111, 120, 121, 45, 114, 101, 118, 97, 108, 105, 100,
  97, 116, 101])) (∃ y : Unit, ((True) /\ ((0 = 0) /\ ((0 = 0) /\ ((0 = 0) /\ ((0 = 0) /\ ((List.length g.1.2 = List.length g.1.2) /\ (((↑(List.length g.1.2) : Int) =
  (↑(List.length g.1.2) : Int)) /\ (((↑g.4 : Int) = (↑g.4 : Int)) /\ ((Eq (α := List Value) (gC enF g.1.1) (gC enF g.1.1)) /\ ((Plain (gC enF g.1.1)) /\ ((false = false) /\
  ((false = false) /\ ((false = false) /\ ((false = false) /\ ((false = false) /\ ((false = false) /\ (((0 : Int) = (0 : Int)) /\ (((0 : Int) = (0 : Int)) /\ (((0 : Int) =
  (0 : Int)) /\ (((0 : Int) = (0 : Int)) /\ (((g.2.1 || decide (g.3.1 = [110, 111, 45, 115, 116, 111, 114, 101])) = g.2.1) /\ (((g.2.2 || decide (g.3.1 = [110, 111, 45, 99,
  97, 99, 104, 101])) = g.2.2) /\ (((g.2.3 || decide (g.3.1 = [112, 114, 105, 118, 97, 116, 101])) = g.2.3) /\ (((g.2.4 || decide (g.3.1 = [112, 117, 98, 108, 105, 99])) =
  g.2.4) /\ (((g.2.5 || (decide (g.3.1 = [109, 117, 115, 116, 45, 114, 101, 118, 97, 108, 105, 100, 97, 116, 101]) || decide (g.3.1 = [112, 114, 111, 120, 121, 45, 114, 101,
  118, 97, 108, 105, 100, 97, 116, 101]))) = true) /\ (((g.2.6 || decide (g.3.1 = [111, 110, 108, 121, 45, 105, 102, 45, 99, 97, 99, 104, 101, 100])) = g.2.6) /\ ((g.2.7 =
  g.2.7) /\ ((g.2.8 = g.2.8) /\ ((g.2.9 = g.2.9) /\ ((g.2.10 = g.2.10) /\ ((Eq (α := List Value) (gC enP g.1.2) (gC enP g.1.2)) /\ ((Plain (gC enP g.1.2)) /\ ((bs g.3.1 = bs
  g.3.1) /\ ((bs g.3.2 = bs g.3.2) /\ ((g.3.3 = g.3.3) /\ True)))))))))))))))))))))))))))))))))))) (∃ y : Unit, ((True) /\ ((0 = 0) /\ ((0 = 0) /\ ((0 = 0) /\ ((0 = 0) /\
  ((List.length g.1.2 = List.length g.1.2) /\ (((↑(List.length g.1.2) : Int) = (↑(List.length g.1.2) : Int)) /\ (((↑g.4 : Int) = (↑g.4 : Int)) /\ ((Eq (α := List Value) (gC
  enF g.1.1) (gC enF g.1.1)) /\ ((Plain (gC enF g.1.1)) /\ ((false = false) /\ ((false = false) /\ ((false = false) /\ ((false = false) /\ ((false = false) /\ ((false =
  false) /\ (((0 : Int) = (0 : Int)) /\ (((0 : Int) = (0 : Int)) /\ (((0 : Int) = (0 : Int)) /\ (((0 : Int) = (0 : Int)) /\ (((g.2.1 || decide (g.3.1 = [110, 111, 45, 115,
  116, 111, 114, 101])) = g.2.1) /\ (((g.2.2 || decide (g.3.1 = [110, 111, 45, 99, 97, 99, 104, 101])) = g.2.2) /\ (((g.2.3 || decide (g.3.1 = [112, 114, 105, 118, 97, 116,
  101])) = g.2.3) /\ (((g.2.4 || decide (g.3.1 = [112, 117, 98, 108, 105, 99])) = g.2.4) /\ (((g.2.5 || (decide (g.3.1 = [109, 117, 115, 116, 45, 114, 101, 118, 97, 108,
  105, 100, 97, 116, 101]) || decide (g.3.1 = [112, 114, 111, 120, 121, 45, 114, 101, 118, 97, 108, 105, 100, 97, 116, 101]))) = g.2.5) /\ (((g.2.6 || decide (g.3.1 = [111,
  110, 108, 121, 45, 105, 102, 45, 99, 97, 99, 104, 101, 100])) = g.2.6) /\ ((g.2.7 = g.2.7) /\ ((g.2.8 = g.2.8) /\ ((g.2.9 = g.2.9) /\ ((g.2.10 = g.2.10) /\ ((Eq (α := List
  Value) (gC enP g.1.2) (gC enP g.1.2)) /\ ((Plain (gC enP g.1.2)) /\ ((bs g.3.1 = bs g.3.1) /\ ((bs g.3.2 = bs g.3.2) /\ ((g.3.3 = g.3.3) /\
  True))))))))))))))))))))))))))))))))))))))))))) := by kernel_rfl
theorem six_vc (g : G5) : mev ECo noM 60 22 pCo6 false (codeOf Try.prog 22 pCo6) ⟨mkOv (sl5 g), 21, []⟩ none ⟨mkR (rl5 g), 5⟩ (Go.Sy.endsIn 1 21 (ws6 g)) =
  (br (g.3.3) ((((True /\ True) /\ (True /\ List.length (L (bs g.3.2)) <= 9223372036854775807))) /\ (br (strEq (bs g.3.1) (ByteArray.mk #[109, 97, 120, 45, 97, 103, 101]))
  (br (g.2.7 == (-1 : Int)) (∃ y : Unit, ((True) /\ ((0 = 0) /\ ((0 = 0) /\ ((0 = 0) /\ ((0 = 0) /\ ((List.length g.1.2 = List.length g.1.2) /\ (((↑(List.length g.1.2) :
  Int) = (↑(List.length g.1.2) : Int)) /\ (((↑g.4 : Int) = (↑g.4 : Int)) /\ ((Eq (α := List Value) (gC enF g.1.1) (gC enF g.1.1)) /\ ((Plain (gC enF g.1.1)) /\ ((false =
  false) /\ ((false = false) /\ ((false = false) /\ ((false = false) /\ ((false = false) /\ ((false = false) /\ (((0 : Int) = (0 : Int)) /\ (((0 : Int) = (0 : Int)) /\ (((0
  : Int) = (0 : Int)) /\ (((0 : Int) = (0 : Int)) /\ ((g.2.1 = g.2.1) /\ ((g.2.2 = g.2.2) /\ ((g.2.3 = g.2.3) /\ ((g.2.4 = g.2.4) /\ ((g.2.5 = g.2.5) /\ ((g.2.6 = g.2.6) /\
  (((if g.3.1 = [109, 97, 120, 45, 97, 103, 101] then smal g.2.7 (numN (G5.p g)) else g.2.7) = if (0 : Int) > secS (bs g.3.2) then (0 : Int) else secS (bs g.3.2)) /\ (((if
  g.3.1 = [115, 45, 109, 97, 120, 97, 103, 101] then smal g.2.8 (numN (G5.p g)) else g.2.8) = g.2.8) /\ (((if g.3.1 = [109, 97, 120, 45, 115, 116, 97, 108, 101] then smal
  g.2.9 (if g.3.3 = true then numN (G5.p g) else (2147483647 : Int)) else g.2.9) = g.2.9) /\ (((if g.3.1 = [109, 105, 110, 45, 102, 114, 101, 115, 104] then smal g.2.10
  (numN (G5.p g)) else g.2.10) = g.2.10) /\ ((Eq (α := List Value) (gC enP g.1.2) (gC enP g.1.2)) /\ ((Plain (gC enP g.1.2)) /\ ((bs g.3.1 = bs g.3.1) /\ ((bs g.3.2 = bs
  g.3.2) /\ ((g.3.3 = g.3.3) /\ True)))))))))))))))))))))))))))))))))))) (∃ y : Unit, ((True) /\ ((0 = 0) /\ ((0 = 0) /\ ((0 = 0) /\ ((0 = 0) /\ ((List.length g.1.2 =
  List.length g.1.2) /\ (((↑(List.length g.1.2) : Int) = (↑(List.length g.1.2) : Int)) /\ (((↑g.4 : Int) = (↑g.4 : Int)) /\ ((Eq (α := List Value) (gC enF g.1.1) (gC enF
  g.1.1)) /\ ((Plain (gC enF g.1.1)) /\ ((false = false) /\ ((false = false) /\ ((false = false) /\ ((false = false) /\ ((false = false) /\ ((false = false) /\ (((0 : Int) =
  (0 : Int)) /\ (((0 : Int) = (0 : Int)) /\ (((0 : Int) = (0 : Int)) /\ (((0 : Int) = (0 : Int)) /\ ((g.2.1 = g.2.1) /\ ((g.2.2 = g.2.2) /\ ((g.2.3 = g.2.3) /\ ((g.2.4 =
  g.2.4) /\ ((g.2.5 = g.2.5) /\ ((g.2.6 = g.2.6) /\ (((if g.3.1 = [109, 97, 120, 45, 97, 103, 101] then smal g.2.7 (numN (G5.p g)) else g.2.7) = if (if (0 : Int) > secS (bs
  g.3.2) then (0 : Int) else secS (bs g.3.2)) < g.2.7 then if (0 : Int) > secS (bs g.3.2) then (0 : Int) else secS (bs g.3.2) else g.2.7) /\ (((if g.3.1 = [115, 45, 109, 97,
  120, 97, 103, 101] then smal g.2.8 (numN (G5.p g)) else g.2.8) = g.2.8) /\ (((if g.3.1 = [109, 97, 120, 45, 115, 116, 97, 108, 101] then smal g.2.9 (if g.3.3 = true then
  numN (G5.p g) else (2147483647 : Int)) else g.2.9) = g.2.9) /\ (((if g.3.1 = [109, 105, 110, 45, 102, 114, 101, 115, 104] then smal g.2.10 (numN (G5.p g)) else g.2.10) =
  g.2.10) /\ ((Eq (α := List Value) (gC enP g.1.2) (gC enP g.1.2)) /\ ((Plain (gC enP g.1.2)) /\ ((bs g.3.1 = bs g.3.1) /\ ((bs g.3.2 = bs g.3.2) /\ ((g.3.3 = g.3.3) /\
  True))))))))))))))))))))))))))))))))))))) (br (strEq (bs g.3.1) (ByteArray.mk #[115, 45, 109, 97, 120, 97, 103, 101])) (br (g.2.8 == (-1 : Int)) (∃ y : Unit, ((True) /\
  ((0 = 0) /\ ((0 = 0) /\ ((0 = 0) /\ ((0 = 0) /\ ((List.length g.1.2 = List.length g.1.2) /\ (((↑(List.length g.1.2) : Int) = (↑(List.length g.1.2) : Int)) /\ (((↑g.4 :
  Int) = (↑g.4 : Int)) /\ ((Eq (α := List Value) (gC enF g.1.1) (gC enF g.1.1)) /\ ((Plain (gC enF g.1.1)) /\ ((false = false) /\ ((false = false) /\ ((false = false) /\
  ((false = false) /\ ((false = false) /\ ((false = false) /\ (((0 : Int) = (0 : Int)) /\ (((0 : Int) = (0 : Int)) /\ (((0 : Int) = (0 : Int)) /\ (((0 : Int) = (0 : Int)) /\
  ((g.2.1 = g.2.1) /\ ((g.2.2 = g.2.2) /\ ((g.2.3 = g.2.3) /\ ((g.2.4 = g.2.4) /\ ((g.2.5 = g.2.5) /\ ((g.2.6 = g.2.6) /\ (((if g.3.1 = [109, 97, 120, 45, 97, 103, 101] then
  smal g.2.7 (numN (G5.p g)) else g.2.7) = g.2.7) /\ (((if g.3.1 = [115, 45, 109, 97, 120, 97, 103, 101] then smal g.2.8 (numN (G5.p g)) else g.2.8) = if (0 : Int) > secS
  (bs g.3.2) then (0 : Int) else secS (bs g.3.2)) /\ (((if g.3.1 = [109, 97, 120, 45, 115, 116, 97, 108, 101] then smal g.2.9 (if g.3.3 = true then numN (G5.p g) else
  (2147483647 : Int)) else g.2.9) = g.2.9) /\ (((if g.3.1 = [109, 105, 110, 45, 102, 114, 101, 115, 104] then smal g.2.10 (numN (G5.p g)) else g.2.10) = g.2.10) /\ ((Eq (α
  := List Value) (gC enP g.1.2) (gC enP g.1.2)) /\ ((Plain (gC enP g.1.2)) /\ ((bs g.3.1 = bs g.3.1) /\ ((bs g.3.2 = bs g.3.2) /\ ((g.3.3 = g.3.3) /\
  True)))))))))))))))))))))))))))))))))))) (∃ y : Unit, ((True) /\ ((0 = 0) /\ ((0 = 0) /\ ((0 = 0) /\ ((0 = 0) /\ ((List.length g.1.2 = List.length g.1.2) /\
  (((↑(List.length g.1.2) : Int) = (↑(List.length g.1.2) : Int)) /\ (((↑g.4 : Int) = (↑g.4 : Int)) /\ ((Eq (α := List Value) (gC enF g.1.1) (gC enF g.1.1)) /\ ((Plain (gC
  enF g.1.1)) /\ ((false = false) /\ ((false = false) /\ ((false = false) /\ ((false = false) /\ ((false = false) /\ ((false = false) /\ (((0 : Int) = (0 : Int)) /\ (((0 :
  Int) = (0 : Int)) /\ (((0 : Int) = (0 : Int)) /\ (((0 : Int) = (0 : Int)) /\ ((g.2.1 = g.2.1) /\ ((g.2.2 = g.2.2) /\ ((g.2.3 = g.2.3) /\ ((g.2.4 = g.2.4) /\ ((g.2.5 =
  g.2.5) /\ ((g.2.6 = g.2.6) /\ (((if g.3.1 = [109, 97, 120, 45, 97, 103, 101] then smal g.2.7 (numN (G5.p g)) else g.2.7) = g.2.7) /\ (((if g.3.1 = [115, 45, 109, 97, 120,
  97, 103, 101] then smal g.2.8 (numN (G5.p g)) else g.2.8) = if (if (0 : Int) > secS (bs g.3.2) then (0 : Int) else secS (bs g.3.2)) < g.2.8 then if (0 : Int) > secS (bs
  g.3.2) then (0 : Int) else secS (bs g.3.2) else g.2.8) /\ (((if g.3.1 = [109, 97, 120, 45, 115, 116, 97, 108, 101] then smal g.2.9 (if g.3.3 = true then numN (G5.p g) else
  (2147483647 : Int)) else g.2.9) = g.2.9) /\ (((if g.3.1 = [109, 105, 110, 45, 102, 114, 101, 115, 104] then smal g.2.10 (numN (G5.p g)) else g.2.10) = g.2.10) /\ ((Eq (α
  := List Value) (gC enP g.1.2) (gC enP g.1.2)) /\ ((Plain (gC enP g.1.2)) /\ ((bs g.3.1 = bs g.3.1) /\ ((bs g.3.2 = bs g.3.2) /\ ((g.3.3 = g.3.3) /\
  True))))))))))))))))))))))))))))))))))))) (br (strEq (bs g.3.1) (ByteArray.mk #[109, 105, 110, 45, 102, 114, 101, 115, 104])) (br (g.2.10 == (-1 : Int)) (∃ y : Unit,
  ((True) /\ ((0 = 0) /\ ((0 = 0) /\ ((0 = 0) /\ ((0 = 0) /\ ((List.length g.1.2 = List.length g.1.2) /\ (((↑(List.length g.1.2) : Int) = (↑(List.length g.1.2) : Int)) /\
  (((↑g.4 : Int) = (↑g.4 : Int)) /\ ((Eq (α := List Value) (gC enF g.1.1) (gC enF g.1.1)) /\ ((Plain (gC enF g.1.1)) /\ ((false = false) /\ ((false = false) /\ ((false =
  false) /\ ((false = false) /\ ((false = false) /\ ((false = false) /\ (((0 : Int) = (0 : Int)) /\ (((0 : Int) = (0 : Int)) /\ (((0 : Int) = (0 : Int)) /\ (((0 : Int) = (0
  : Int)) /\ ((g.2.1 = g.2.1) /\ ((g.2.2 = g.2.2) /\ ((g.2.3 = g.2.3) /\ ((g.2.4 = g.2.4) /\ ((g.2.5 = g.2.5) /\ ((g.2.6 = g.2.6) /\ (((if g.3.1 = [109, 97, 120, 45, 97,
  103, 101] then smal g.2.7 (numN (G5.p g)) else g.2.7) = g.2.7) /\ (((if g.3.1 = [115, 45, 109, 97, 120, 97, 103, 101] then smal g.2.8 (numN (G5.p g)) else g.2.8) = g.2.8)
  /\ (((if g.3.1 = [109, 97, 120, 45, 115, 116, 97, 108, 101] then smal g.2.9 (if g.3.3 = true then numN (G5.p g) else (2147483647 : Int)) else g.2.9) = g.2.9) /\ (((if
  g.3.1 = [109, 105, 110, 45, 102, 114, 101, 115, 104] then smal g.2.10 (numN (G5.p g)) else g.2.10) = if (0 : Int) > secS (bs g.3.2) then (0 : Int) else secS (bs g.3.2)) /\
  ((Eq (α := List Value) (gC enP g.1.2) (gC enP g.1.2)) /\ ((Plain (gC enP g.1.2)) /\ ((bs g.3.1 = bs g.3.1) /\ ((bs g.3.2 = bs g.3.2) /\ ((g.3.3 = g.3.3) /\
  True)))))))))))))))))))))))))))))))))))) (∃ y : Unit, ((True) /\ ((0 = 0) /\ ((0 = 0) /\ ((0 = 0) /\ ((0 = 0) /\ ((List.length g.1.2 = List.length g.1.2) /\
  (((↑(List.length g.1.2) : Int) = (↑(List.length g.1.2) : Int)) /\ (((↑g.4 : Int) = (↑g.4 : Int)) /\ ((Eq (α := List Value) (gC enF g.1.1) (gC enF g.1.1)) /\ ((Plain (gC
  enF g.1.1)) /\ ((false = false) /\ ((false = false) /\ ((false = false) /\ ((false = false) /\ ((false = false) /\ ((false = false) /\ (((0 : Int) = (0 : Int)) /\ (((0 :
  Int) = (0 : Int)) /\ (((0 : Int) = (0 : Int)) /\ (((0 : Int) = (0 : Int)) /\ ((g.2.1 = g.2.1) /\ ((g.2.2 = g.2.2) /\ ((g.2.3 = g.2.3) /\ ((g.2.4 = g.2.4) /\ ((g.2.5 =
  g.2.5) /\ ((g.2.6 = g.2.6) /\ (((if g.3.1 = [109, 97, 120, 45, 97, 103, 101] then smal g.2.7 (numN (G5.p g)) else g.2.7) = g.2.7) /\ (((if g.3.1 = [115, 45, 109, 97, 120,
  97, 103, 101] then smal g.2.8 (numN (G5.p g)) else g.2.8) = g.2.8) /\ (((if g.3.1 = [109, 97, 120, 45, 115, 116, 97, 108, 101] then smal g.2.9 (if g.3.3 = true then numN
  (G5.p g) else (2147483647 : Int)) else g.2.9) = g.2.9) /\ (((if g.3.1 = [109, 105, 110, 45, 102, 114, 101, 115, 104] then smal g.2.10 (numN (G5.p g)) else g.2.10) = if (if
  (0 : Int) > secS (bs g.3.2) then (0 : Int) else secS (bs g.3.2)) < g.2.10 then if (0 : Int) > secS (bs g.3.2) then (0 : Int) else secS (bs g.3.2) else g.2.10) /\ ((Eq (α
  := List Value) (gC enP g.1.2) (gC enP g.1.2)) /\ ((Plain (gC enP g.1.2)) /\ ((bs g.3.1 = bs g.3.1) /\ ((bs g.3.2 = bs g.3.2) /\ ((g.3.3 = g.3.3) /\
  True))))))))))))))))))))))))))))))))))))) (br (strEq (bs g.3.1) (ByteArray.mk #[109, 97, 120, 45, 115, 116, 97, 108, 101])) (br (!g.3.3) (br (g.2.9 == (-1 : Int)) (∃ y :
  Unit, ((True) /\ ((0 = 0) /\ ((0 = 0) /\ ((0 = 0) /\ ((0 = 0) /\ ((List.length g.1.2 = List.length g.1.2) /\ (((↑(List.length g.1.2) : Int) = (↑(List.length g.1.2) : Int))
  /\ (((↑g.4 : Int) = (↑g.4 : Int)) /\ ((Eq (α := List Value) (gC enF g.1.1) (gC enF g.1.1)) /\ ((Plain (gC enF g.1.1)) /\ ((false = false) /\ ((false = false) /\ ((false =
  false) /\ ((false = false) /\ ((false = false) /\ ((false = false) /\ (((0 : Int) = (0 : Int)) /\ (((0 : Int) = (0 : Int)) /\ (((0 : Int) = (0 : Int)) /\ (((0 : Int) = (0
  : Int)) /\ ((g.2.1 = g.2.1) /\ ((g.2.2 = g.2.2) /\ ((g.2.3 = g.2.3) /\ ((g.2.4 = g.2.4) /\ ((g.2.5 = g.2.5) /\ ((g.2.6 = g.2.6) /\ (((if g.3.1 = [109, 97, 120, 45, 97,
  103, 101] then smal g.2.7 (numN (G5.p g)) else g.2.7) = g.2.7) /\ (((if g.3.1 = [115, 45, 109, 97, 120, 97, 103, 101] then smal g.2.8 (numN (G5.p g)) else g.2.8) = g.2.8)
  /\ (((if g.3.1 = [109, 97, 120, 45, 115, 116, 97, 108, 101] then smal g.2.9 (if g.3.3 = true then numN (G5.p g) else (2147483647 : Int)) else g.2.9) = (2147483647 : Int))
  /\ (((if g.3.1 = [109, 105, 110, 45, 102, 114, 101, 115, 104] then smal g.2.10 (numN (G5.p g)) else g.2.10) = g.2.10) /\ ((Eq (α := List Value) (gC enP g.1.2) (gC enP
  g.1.2)) /\ ((Plain (gC enP g.1.2)) /\ ((bs g.3.1 = bs g.3.1) /\ ((bs g.3.2 = bs g.3.2) /\ ((g.3.3 = g.3.3) /\ True)))))))))))))))))))))))))))))))))))) (∃ y : Unit, ((True)
  /\ ((0 = 0) /\ ((0 = 0) /\ ((0 = 0) /\ ((0 = 0) /\ ((List.length g.1.2 = List.length g.1.2) /\ (((↑(List.length g.1.2) : Int) = (↑(List.length g.1.2) : Int)) /\ (((↑g.4 :
  Int) = (↑g.4 : Int)) /\ ((Eq (α := List Value) (gC enF g.1.1) (gC enF g.1.1)) /\ ((Plain (gC enF g.1.1)) /\ ((false = false) /\ ((false = false) /\ ((false = false) /\
  ((false = false) /\ ((false = false) /\ ((false = false) /\ (((0 : Int) = (0 : Int)) /\ (((0 : Int) = (0 : Int)) /\ (((0 : Int) = (0 : Int)) /\ (((0 : Int) = (0 : Int)) /\
  ((g.2.1 = g.2.1) /\ ((g.2.2 = g.2.2) /\ ((g.2.3 = g.2.3) /\ ((g.2.4 = g.2.4) /\ ((g.2.5 = g.2.5) /\ ((g.2.6 = g.2.6) /\ (((if g.3.1 = [109, 97, 120, 45, 97, 103, 101] then
  smal g.2.7 (numN (G5.p g)) else g.2.7) = g.2.7) /\ (((if g.3.1 = [115, 45, 109, 97, 120, 97, 103, 101] then smal g.2.8 (numN (G5.p g)) else g.2.8) = g.2.8) /\ (((if g.3.1
  = [109, 97, 120, 45, 115, 116, 97, 108, 101] then smal g.2.9 (if g.3.3 = true then numN (G5.p g) else (2147483647 : Int)) else g.2.9) = if (2147483647 : Int) < g.2.9 then
  (2147483647 : Int) else g.2.9) /\ (((if g.3.1 = [109, 105, 110, 45, 102, 114, 101, 115, 104] then smal g.2.10 (numN (G5.p g)) else g.2.10) = g.2.10) /\ ((Eq (α := List
  Value) (gC enP g.1.2) (gC enP g.1.2)) /\ ((Plain (gC enP g.1.2)) /\ ((bs g.3.1 = bs g.3.1) /\ ((bs g.3.2 = bs g.3.2) /\ ((g.3.3 = g.3.3) /\
  True))))))))))))))))))))))))))))))))))))) (br (g.2.9 == (-1 : Int)) (∃ y : Unit, ((True) /\ ((0 = 0) /\ ((0 = 0) /\ ((0 = 0) /\ ((0 = 0) /\ ((List.length g.1.2 =
  List.length g.1.2) /\ (((↑(List.length g.1.2) : Int) = (↑(List.length g.1.2) : Int)) /\ (((↑g.4 : Int) = (↑g.4 : Int)) /\ ((Eq (α := List Value) (gC enF g.1.1) (gC enF
  g.1.1)) /\ ((Plain (gC enF g.1.1)) /\ ((false = false) /\ ((false = false) /\ ((false = false) /\ ((false = false) /\ ((false = false) /\ ((false = false) /\ (((0 : Int) =
  (0 : Int)) /\ (((0 : Int) = (0 : Int)) /\ (((0 : Int) = (0 : Int)) /\ (((0 : Int) = (0 : Int)) /\ ((g.2.1 = g.2.1) /\ ((g.2.2 = g.2.2) /\ ((g.2.3 = g.2.3) /\ ((g.2.4 =
  g.2.4) /\ ((g.2.5 = g.2.5) /\ ((g.2.6 = g.2.6) /\ (((if g.3.1 = [109, 97, 120, 45, 97, 103, 101] then smal g.2.7 (numN (G5.p g)) else g.2.7) = g.2.7) /\ (((if g.3.1 =
  [115, 45, 109, 97, 120, 97, 103, 101] then smal g.2.8 (numN (G5.p g)) else g.2.8) = g.2.8) /\ (((if g.3.1 = [109, 97, 120, 45, 115, 116, 97, 108, 101] then smal g.2.9 (if
  g.3.3 = true then numN (G5.p g) else (2147483647 : Int)) else g.2.9) = if (0 : Int) > secS (bs g.3.2) then (0 : Int) else secS (bs g.3.2)) /\ (((if g.3.1 = [109, 105, 110,
  45, 102, 114, 101, 115, 104] then smal g.2.10 (numN (G5.p g)) else g.2.10) = g.2.10) /\ ((Eq (α := List Value) (gC enP g.1.2) (gC enP g.1.2)) /\ ((Plain (gC enP g.1.2)) /\
  ((bs g.3.1 = bs g.3.1) /\ ((bs g.3.2 = bs g.3.2) /\ ((g.3.3 = g.3.3) /\ True)))))))))))))))))))))))))))))))))))) (∃ y : Unit, ((True) /\ ((0 = 0) /\ ((0 = 0) /\ ((0 = 0)
  /\ ((0 = 0) /\ ((List.length g.1.2 = List.length g.1.2) /\ (((↑(List.length g.1.2) : Int) = (↑(List.length g.1.2) : Int)) /\ (((↑g.4 : Int) = (↑g.4 : Int)) /\ ((Eq (α :=
  List Value) (gC enF g.1.1) (gC enF g.1.1)) /\ ((Plain (gC enF g.1.1)) /\ ((false = false) /\ ((false = false) /\ ((false = false) /\ ((false = false) /\ ((false = false)
  /\ ((false = false) /\ (((0 : Int) = (0 : Int)) /\ (((0 : Int) = (0 : Int)) /\ (((0 : Int) = (0 : Int)) /\ (((0 : Int) = (0 : Int)) /\ ((g.2.1 = g.2.1) /\ ((g.2.2 = g.2.2)
  /\ ((g.2.3 = g.2.3) /\ ((g.2.4 = g.2.4) /\ ((g.2.5 = g.2.5) /\ ((g.2.6 = g.2.6) /\ (((if g.3.1 = [109, 97, 120, 45, 97, 103, 101] then smal g.2.7 (numN (G5.p g)) else
  g.2.7) = g.2.7) /\ (((if g.3.1 = [115, 45, 109, 97, 120, 97, 103, 101] then smal g.2.8 (numN (G5.p g)) else g.2.8) = g.2.8) /\ (((if g.3.1 = [109, 97, 120, 45, 115, 116,
  97, 108, 101] then smal g.2.9 (if g.3.3 = true then numN (G5.p g) else (2147483647 : Int)) else g.2.9) = if (if (0 : Int) > secS (bs g.3.2) then (0 : Int) else secS (bs
  g.3.2)) < g.2.9 then if (0 : Int) > secS (bs g.3.2) then (0 : Int) else secS (bs g.3.2) else g.2.9) /\ (((if g.3.1 = [109, 105, 110, 45, 102, 114, 101, 115, 104] then smal
  g.2.10 (numN (G5.p g)) else g.2.10) = g.2.10) /\ ((Eq (α := List Value) (gC enP g.1.2) (gC enP g.1.2)) /\ ((Plain (gC enP g.1.2)) /\ ((bs g.3.1 = bs g.3.1) /\ ((bs g.3.2 =
  bs g.3.2) /\ ((g.3.3 = g.3.3) /\ True)))))))))))))))))))))))))))))))))))))) (∃ y : Unit, ((True) /\ ((0 = 0) /\ ((0 = 0) /\ ((0 = 0) /\ ((0 = 0) /\ ((List.length g.1.2 =
  List.length g.1.2) /\ (((↑(List.length g.1.2) : Int) = (↑(List.length g.1.2) : Int)) /\ (((↑g.4 : Int) = (↑g.4 : Int)) /\ ((Eq (α := List Value) (gC enF g.1.1) (gC enF
  g.1.1)) /\ ((Plain (gC enF g.1.1)) /\ ((false = false) /\ ((false = false) /\ ((false = false) /\ ((false = false) /\ ((false = false) /\ ((false = false) /\ (((0 : Int) =
  (0 : Int)) /\ (((0 : Int) = (0 : Int)) /\ (((0 : Int) = (0 : Int)) /\ (((0 : Int) = (0 : Int)) /\ ((g.2.1 = g.2.1) /\ ((g.2.2 = g.2.2) /\ ((g.2.3 = g.2.3) /\ ((g.2.4 =
  g.2.4) /\ ((g.2.5 = g.2.5) /\ ((g.2.6 = g.2.6) /\ (((if g.3.1 = [109, 97, 120, 45, 97, 103, 101] then smal g.2.7 (numN (G5.p g)) else g.2.7) = g.2.7) /\ (((if g.3.1 =
  [115, 45, 109, 97, 120, 97, 103, 101] then smal g.2.8 (numN (G5.p g)) else g.2.8) = g.2.8) /\ (((if g.3.1 = [109, 97, 120, 45, 115, 116, 97, 108, 101] then smal g.2.9 (if
  g.3.3 = true then numN (G5.p g) else (2147483647 : Int)) else g.2.9) = g.2.9) /\ (((if g.3.1 = [109, 105, 110, 45, 102, 114, 101, 115, 104] then smal g.2.10 (numN (G5.p
  g)) else g.2.10) = g.2.10) /\ ((Eq (α := List Value) (gC enP g.1.2) (gC enP g.1.2)) /\ ((Plain (gC enP g.1.2)) /\ ((bs g.3.1 = bs g.3.1) /\ ((bs g.3.2 = bs g.3.2) /\
  ((g.3.3 = g.3.3) /\ True))))))))))))))))))))))))))))))))))))))))) (br (strEq (bs g.3.1) (ByteArray.mk #[109, 97, 120, 45, 97, 103, 101])) (br (g.2.7 == (-1 : Int)) (∃ y :
  Unit, ((True) /\ ((0 = 0) /\ ((0 = 0) /\ ((0 = 0) /\ ((0 = 0) /\ ((List.length g.1.2 = List.length g.1.2) /\ (((↑(List.length g.1.2) : Int) = (↑(List.length g.1.2) : Int))
  /\ (((↑g.4 : Int) = (↑g.4 : Int)) /\ ((Eq (α := List Value) (gC enF g.1.1) (gC enF g.1.1)) /\ ((Plain (gC enF g.1.1)) /\ ((false = false) /\ ((false = false) /\ ((false =
  false) /\ ((false = false) /\ ((false = false) /\ ((false = false) /\ (((0 : Int) = (0 : Int)) /\ (((0 : Int) = (0 : Int)) /\ (((0 : Int) = (0 : Int)) /\ (((0 : Int) = (0
  : Int)) /\ ((g.2.1 = g.2.1) /\ ((g.2.2 = g.2.2) /\ ((g.2.3 = g.2.3) /\ ((g.2.4 = g.2.4) /\ ((g.2.5 = g.2.5) /\ ((g.2.6 = g.2.6) /\ (((if g.3.1 = [109, 97, 120, 45, 97,
  103, 101] then smal g.2.7 (numN (G5.p g)) else g.2.7) = (0 : Int)) /\ (((if g.3.1 = [115, 45, 109, 97, 120, 97, 103, 101] then smal g.2.8 (numN (G5.p g)) else g.2.8) =
  g.2.8) /\ (((if g.3.1 = [109, 97, 120, 45, 115, 116, 97, 108, 101] then smal g.2.9 (if g.3.3 = true then numN (G5.p g) else (2147483647 : Int)) else g.2.9) = g.2.9) /\
  (((if g.3.1 = [109, 105, 110, 45, 102, 114, 101, 115, 104] then smal g.2.10 (numN (G5.p g)) else g.2.10) = g.2.10) /\ ((Eq (α := List Value) (gC enP g.1.2) (gC enP g.1.2))
  /\ ((Plain (gC enP g.1.2)) /\ ((bs g.3.1 = bs g.3.1) /\ ((bs g.3.2 = bs g.3.2) /\ ((g.3.3 = g.3.3) /\ True)))))))))))))))))))))))))))))))))))) (∃ y : Unit, ((True) /\ ((0
  = 0) /\ ((0 = 0) /\ ((0 = 0) /\ ((0 = 0) /\ ((List.length g.1.2 = List.length g.1.2) /\ (((↑(List.length g.1.2) : Int) = (↑(List.length g.1.2) : Int)) /\ (((↑g.4 : Int) =
  (↑g.4 : Int)) /\ ((Eq (α := List Value) (gC enF g.1.1) (gC enF g.1.1)) /\ ((Plain (gC enF g.1.1)) /\ ((false = false) /\ ((false = false) /\ ((false = false) /\ ((false =
  false) /\ ((false = false) /\ ((false = false) /\ (((0 : Int) = (0 : Int)) /\ (((0 : Int) = (0 : Int)) /\ (((0 : Int) = (0 : Int)) /\ (((0 : Int) = (0 : Int)) /\ ((g.2.1 =
  g.2.1) /\ ((g.2.2 = g.2.2) /\ ((g.2.3 = g.2.3) /\ ((g.2.4 = g.2.4) /\ ((g.2.5 = g.2.5) /\ ((g.2.6 = g.2.6) /\ (((if g.3.1 = [109, 97, 120, 45, 97, 103, 101] then smal
  g.2.7 (numN (G5.p g)) else g.2.7) = if (0 : Int) < g.2.7 then (0 : Int) else g.2.7) /\ (((if g.3.1 = [115, 45, 109, 97, 120, 97, 103, 101] then smal g.2.8 (numN (G5.p g))
  else g.2.8) = g.2.8) /\ (((if g.3.1 = [109, 97, 120, 45, 115, 116, 97, 108, 101] then smal g.2.9 (if g.3.3 = true then numN (G5.p g) else (2147483647 : Int)) else g.2.9) =
  g.2.9) /\ (((if g.3.1 = [109, 105, 110, 45, 102, 114, 101, 115, 104] then smal g.2.10 (numN (G5.p g)) else g.2.10) = g.2.10) /\ ((Eq (α := List Value) (gC enP g.1.2) (gC
  enP g.1.2)) /\ ((Plain (gC enP g.1.2)) /\ ((bs g.3.1 = bs g.3.1) /\ ((bs g.3.2 = bs g.3.2) /\ ((g.3.3 = g.3.3) /\ True))))))))))))))))))))))))))))))))))))) (br (strEq (bs
  g.3.1) (ByteArray.mk #[115, 45, 109, 97, 120, 97, 103, 101])) (br (g.2.8 == (-1 : Int)) (∃ y : Unit, ((True) /\ ((0 = 0) /\ ((0 = 0) /\ ((0 = 0) /\ ((0 = 0) /\
  ((List.length g.1.2 = List.length g.1.2) /\ (((↑(List.length g.1.2) : Int) = (↑(List.length g.1.2) : Int)) /\ (((↑g.4 : Int) = (↑g.4 : Int)) /\ ((Eq (α := List Value) (gC
  enF g.1.1) (gC enF g.1.1)) /\ ((Plain (gC enF g.1.1)) /\ ((false = false) /\ ((false = false) /\ ((false = false) /\ ((false = false) /\ ((false = false) /\ ((false =
  false) /\ (((0 : Int) = (0 : Int)) /\ (((0 : Int) = (0 : Int)) /\ (((0 : Int) = (0 : Int)) /\ (((0 : Int) = (0 : Int)) /\ ((g.2.1 = g.2.1) /\ ((g.2.2 = g.2.2) /\ ((g.2.3 =
  g.2.3) /\ ((g.2.4 = g.2.4) /\ ((g.2.5 = g.2.5) /\ ((g.2.6 = g.2.6) /\ (((if g.3.1 = [109, 97, 120, 45, 97, 103, 101] then smal g.2.7 (numN (G5.p g)) else g.2.7) = g.2.7)
  /\ (((if g.3.1 = [115, 45, 109, 97, 120, 97, 103, 101] then smal g.2.8 (numN (G5.p g)) else g.2.8) = (0 : Int)) /\ (((if g.3.1 = [109, 97, 120, 45, 115, 116, 97, 108, 101]
  then smal g.2.9 (if g.3.3 = true then numN (G5.p g) else (2147483647 : Int)) else g.2.9) = g.2.9) /\ (((if g.3.1 = [109, 105, 110, 45, 102, 114, 101, 115, 104] then smal
  g.2.10 (numN (G5.p g)) else g.2.10) = g.2.10) /\ ((Eq (α := List Value) (gC enP g.1.2) (gC enP g.1.2)) /\ ((Plain (gC enP g.1.2)) /\ ((bs g.3.1 = bs g.3.1) /\ ((bs g.3.2 =
  bs g.3.2) /\ ((g.3.3 = g.3.3) /\ True)))))))))))))))))))))))))))))))))))) (∃ y : Unit, ((True) /\ ((0 = 0) /\ ((0 = 0) /\ ((0 = 0) /\ ((0 = 0) /\ ((List.length g.1.2 =
  List.length g.1.2) /\ (((↑(List.length g.1.2) : Int) = (↑(List.length g.1.2) : Int)) /\ (((↑g.4 : Int) = (↑g.4 : Int)) /\ ((Eq (α := List Value) (gC enF g.1.1) (gC enF
  g.1.1)) /\ ((Plain (gC enF g.1.1)) /\ ((false = false) /\ ((false = false) /\ ((false = false) /\ ((false = false) /\ ((false = false) /\ ((false = false) /\ (((0 : Int) =
  (0 : Int)) /\ (((0 : Int) = (0 : Int)) /\ (((0 : Int) = (0 : Int)) /\ (((0 : Int) = (0 : Int)) /\ ((g.2.1 = g.2.1) /\ ((g.2.2 = g.2.2) /\ ((g.2.3 = g.2.3) /\ ((g.2.4 =
  g.2.4) /\ ((g.2.5 = g.2.5) /\ ((g.2.6 = g.2.6) /\ (((if g.3.1 = [109, 97, 120, 45, 97, 103, 101] then smal g.2.7 (numN (G5.p g)) else g.2.7) = g.2.7) /\ (((if g.3.1 =
  [115, 45, 109, 97, 120, 97, 103, 101] then smal g.2.8 (numN (G5.p g)) else g.2.8) = if (0 : Int) < g.2.8 then (0 : Int) else g.2.8) /\ (((if g.3.1 = [109, 97, 120, 45,
  115, 116, 97, 108, 101] then smal g.2.9 (if g.3.3 = true then numN (G5.p g) else (2147483647 : Int)) else g.2.9) = g.2.9) /\ (((if g.3.1 = [109, 105, 110, 45, 102, 114,
  101, 115, 104] then smal g.2.10 (numN (G5.p g)) else g.2.10) = g.2.10) /\ ((Eq (α := List Value) (gC enP g.1.2) (gC enP g.1.2)) /\ ((Plain (gC enP g.1.2)) /\ ((bs g.3.1 =
  bs g.3.1) /\ ((bs g.3.2 = bs g.3.2) /\ ((g.3.3 = g.3.3) /\ True))))))))))))))))))))))))))))))))))))) (br (strEq (bs g.3.1) (ByteArray.mk #[109, 105, 110, 45, 102, 114,
  101, 115, 104])) (br (g.2.10 == (-1 : Int)) (∃ y : Unit, ((True) /\ ((0 = 0) /\ ((0 = 0) /\ ((0 = 0) /\ ((0 = 0) /\ ((List.length g.1.2 = List.length g.1.2) /\
  (((↑(List.length g.1.2) : Int) = (↑(List.length g.1.2) : Int)) /\ (((↑g.4 : Int) = (↑g.4 : Int)) /\ ((Eq (α := List Value) (gC enF g.1.1) (gC enF g.1.1)) /\ ((Plain (gC
  enF g.1.1)) /\ ((false = false) /\ ((false = false) /\ ((false = false) /\ ((false = false) /\ ((false = false) /\ ((false = false) /\ (((0 : Int) = (0 : Int)) /\ (((0 :
  Int) = (0 : Int)) /\ (((0 : Int) = (0 : Int)) /\ (((0 : Int) = (0 : Int)) /\ ((g.2.1 = g.2.1) /\ ((g.2.2 = g.2.2) /\ ((g.2.3 = g.2.3) /\ ((g.2.4 = g.2.4) /\ ((g.2.5 =
  g.2.5) /\ ((g.2.6 = g.2.6) /\ (((if g.3.1 = [109, 97, 120, 45, 97, 103, 101] then smal g.2.7 (numN (G5.p g)) else g.2.7) = g.2.7) /\ (((if g.3.1 = [115, 45, 109, 97, 120,
  97, 103, 101] then smal g.2.8 (numN (G5.p g)) else g.2.8) = g.2.8) /\ (((if g.3.1 = [109, 97, 120, 45, 115, 116, 97, 108, 101] then smal g.2.9 (if g.3.3 = true then numN
  (G5.p g) else (2147483647 : Int)) else g.2.9) = g.2.9) /\ (((if g.3.1 = [109, 105, 110, 45, 102, 114, 101, 115, 104] then smal g.2.10 (numN (G5.p g)) else g.2.10) = (0 :
  Int)) /\ ((Eq (α := List Value) (gC enP g.1.2) (gC enP g.1.2)) /\ ((Plain (gC enP g.1.2)) /\ ((bs g.3.1 = bs g.3.1) /\ ((bs g.3.2 = bs g.3.2) /\ ((g.3.3 = g.3.3) /\
  True)))))))))))))))))))))))))))))))))))) (∃ y : Unit, ((True) /\ ((0 = 0) /\ ((0 = 0) /\ ((0 = 0) /\ ((0 = 0) /\ ((List.length g.1.2 = List.length g.1.2) /\
  (((↑(List.length g.1.2) : Int) = (↑(List.length g.1.2) : Int)) /\ (((↑g.4 : Int) = (↑g.4 : Int)) /\ ((Eq (α := List Value) (gC enF g.1.1) (gC enF g.1.1)) /\ ((Plain (gC
  enF g.1.1)) /\ ((false = false) /\ ((false = false) /\ ((false = false) /\ ((false = false) /\ ((false = false) /\ ((false = false) /\ (((0 : Int) = (0 : Int)) /\ (((0 :
  Int) = (0 : Int)) /\ (((0 : Int) = (0 : Int)) /\ (((0 : Int) = (0 : Int)) /\ ((g.2.1 = g.2.1) /\ ((g.2.2 = g.2.2) /\ ((g.2.3 = g.2.3) /\ ((g.2.4 = g.2.4) /\ ((g.2.5 =
  g.2.5) /\ ((g.2.6 = g.2.6) /\ (((if g.3.1 = [109, 97, 120, 45, 97, 103, 101] then smal g.2.7 (numN (G5.p g)) else g.2.7) = g.2.7) /\ (((if g.3.1 = [115, 45, 109, 97, 120,
  97, 103, 101] then smal g.2.8 (numN (G5.p g)) else g.2.8) = g.2.8) /\ (((if g.3.1 = [109, 97, 120, 45, 115, 116, 97, 108, 101] then smal g.2.9 (if g.3.3 = true then numN
  (G5.p g) else (2147483647 : Int)) else g.2.9) = g.2.9) /\ (((if g.3.1 = [109, 105, 110, 45, 102, 114, 101, 115, 104] then smal g.2.10 (numN (G5.p g)) else g.2.10) = if (0
  : Int) < g.2.10 then (0 : Int) else g.2.10) /\ ((Eq (α := List Value) (gC enP g.1.2) (gC enP g.1.2)) /\ ((Plain (gC enP g.1.2)) /\ ((bs g.3.1 = bs g.3.1) /\ ((bs g.3.2 =
  bs g.3.2) /\ ((g.3.3 = g.3.3) /\ True))))))))))))))))))))))))))))))))))))) (br (strEq (bs g.3.1) (ByteArray.mk #[109, 97, 120, 45, 115, 116, 97, 108, 101])) (br (!g.3.3)
  (br (g.2.9 == (-1 : Int)) (∃ y : Unit, ((True) /\ ((0 = 0) /\ ((0 = 0) /\ ((0 = 0) /\ ((0 = 0) /\ ((List.length g.1.2 = List.length g.1.2) /\ (((↑(List.length g.1.2) :
  Int) = (↑(List.length g.1.2) : Int)) /\ (((↑g.4 : Int) = (↑g.4 : Int)) /\ ((Eq (α := List Value) (gC enF g.1.1) (gC enF g.1.1)) /\ ((Plain (gC enF g.1.1)) /\ ((false =
  false) /\ ((false = false) /\ ((false = false) /\ ((false = false) /\ ((false = false) /\ ((false = false) /\ (((0 : Int) = (0 : Int)) /\ (((0 : Int) = (0 : Int)) /\ (((0
  : Int) = (0 : Int)) /\ (((0 : Int) = (0 : Int)) /\ ((g.2.1 = g.2.1) /\ ((g.2.2 = g.2.2) /\ ((g.2.3 = g.2.3) /\ ((g.2.4 = g.2.4) /\ ((g.2.5 = g.2.5) /\ ((g.2.6 = g.2.6) /\
  (((if g.3.1 = [109, 97, 120, 45, 97, 103, 101] then smal g.2.7 (numN (G5.p g)) else g.2.7) = g.2.7) /\ (((if g.3.1 = [115, 45, 109, 97, 120, 97, 103, 101] then smal g.2.8
  (numN (G5.p g)) else g.2.8) = g.2.8) /\ (((if g.3.1 = [109, 97, 120, 45, 115, 116, 97, 108, 101] then smal g.2.9 (if g.3.3 = true then numN (G5.p g) else (2147483647 :
  Int)) else g.2.9) = (2147483647 : Int)) /\ (((if g.3.1 = [109, 105, 110, 45, 102, 114, 101, 115, 104] then smal g.2.10 (numN (G5.p g)) else g.2.10) = g.2.10) /\ ((Eq (α :=
  List Value) (gC enP g.1.2) (gC enP g.1.2)) /\ ((Plain (gC enP g.1.2)) /\ ((bs g.3.1 = bs g.3.1) /\ ((bs g.3.2 = bs g.3.2) /\ ((g.3.3 = g.3.3) /\
  True)))))))))))))))))))))))))))))))))))) (∃ y : Unit, ((True) /\ ((0 = 0) /\ ((0 = 0) /\ ((0 = 0) /\ ((0 = 0) /\ ((List.length g.1.2 = List.length g.1.2) /\
  (((↑(List.length g.1.2) : Int) = (↑(List.length g.1.2) : Int)) /\ (((↑g.4 : Int) = (↑g.4 : Int)) /\ ((Eq (α := List Value) (gC enF g.1.1) (gC enF g.1.1)) /\ ((Plain (gC
  enF g.1.1)) /\ ((false = false) /\ ((false = false) /\ ((false = false) /\ ((false = false) /\ ((false = false) /\ ((false = false) /\ (((0 : Int) = (0 : Int)) /\ (((0 :
  Int) = (0 : Int)) /\ (((0 : Int) = (0 : Int)) /\ (((0 : Int) = (0 : Int)) /\ ((g.2.1 = g.2.1) /\ ((g.2.2 = g.2.2) /\ ((g.2.3 = g.2.3) /\ ((g.2.4 = g.2.4) /\ ((g.2.5 =
  g.2.5) /\ ((g.2.6 = g.2.6) /\ (((if g.3.1 = [109, 97, 120, 45, 97, 103, 101] then smal g.2.7 (numN (G5.p g)) else g.2.7) = g.2.7) /\ (((if g.3.1 = [115, 45, 109, 97, 120,
  97, 103, 101] then smal g.2.8 (numN (G5.p g)) else g.2.8) = g.2.8) /\ (((if g.3.1 = [109, 97, 120, 45, 115, 116, 97, 108, 101] then smal g.2.9 (if g.3.3 = true then numN
  (G5.p g) else (2147483647 : Int)) else g.2.9) = if (2147483647 : Int) < g.2.9 then (2147483647 : Int) else g.2.9) /\ (((if g.3.1 = [109, 105, 110, 45, 102, 114, 101, 115,
  104] then smal g.2.10 (numN (G5.p g)) else g.2.10) = g.2.10) /\ ((Eq (α := List Value) (gC enP g.1.2) (gC enP g.1.2)) /\ ((Plain (gC enP g.1.2)) /\ ((bs g.3.1 = bs g.3.1)
  /\ ((bs g.3.2 = bs g.3.2) /\ ((g.3.3 = g.3.3) /\ True))))))))))))))))))))))))))))))))))))) (br (g.2.9 == (-1 : Int)) (∃ y : Unit, ((True) /\ ((0 = 0) /\ ((0 = 0) /\ ((0 =
  0) /\ ((0 = 0) /\ ((List.length g.1.2 = List.length g.1.2) /\ (((↑(List.length g.1.2) : Int) = (↑(List.length g.1.2) : Int)) /\ (((↑g.4 : Int) = (↑g.4 : Int)) /\ ((Eq (α
  := List Value) (gC enF g.1.1) (gC enF g.1.1)) /\ ((Plain (gC enF g.1.1)) /\ ((false = false) /\ ((false = false) /\ ((false = false) /\ ((false = false) /\ ((false =
  false) /\ ((false = false) /\ (((0 : Int) = (0 : Int)) /\ (((0 : Int) = (0 : Int)) /\ (((0 : Int) = (0 : Int)) /\ (((0 : Int) = (0 : Int)) /\ ((g.2.1 = g.2.1) /\ ((g.2.2 =
  g.2.2) /\ ((g.2.3 = g.2.3) /\ ((g.2.4 = g.2.4) /\ ((g.2.5 = g.2.5) /\ ((g.2.6 = g.2.6) /\ (((if g.3.1 = [109, 97, 120, 45, 97, 103, 101] then smal g.2.7 (numN (G5.p g))
  else g.2.7) = g.2.7) /\ (((if g.3.1 = [115, 45, 109, 97, 120, 97, 103, 101] then smal g.2.8 (numN (G5.p g)) else g.2.8) = g.2.8) /\ (((if g.3.1 = [109, 97, 120, 45, 115,
  116, 97, 108, 101] then smal g.2.9 (if g.3.3 = true then numN (G5.p g) else (2147483647 : Int)) else g.2.9) = (0 : Int)) /\ (((if g.3.1 = [109, 105, 110, 45, 102, 114,
  101, 115, 104] then smal g.2.10 (numN (G5.p g)) else g.2.10) = g.2.10) /\ ((Eq (α := List Value) (gC enP g.1.2) (gC enP g.1.2)) /\ ((Plain (gC enP g.1.2)) /\ ((bs g.3.1 =
  bs g.3.1) /\ ((bs g.3.2 = bs g.3.2) /\ ((g.3.3 = g.3.3) /\ True)))))))))))))))))))))))))))))))))))) (∃ y : Unit, ((True) /\ ((0 = 0) /\ ((0 = 0) /\ ((0 = 0) /\ ((0 = 0) /\
  ((List.length g.1.2 = List.length g.1.2) /\ (((↑(List.length g.1.2) : Int) = (↑(List.length g.1.2) : Int)) /\ (((↑g.4 : Int) = (↑g.4 : Int)) /\ ((Eq (α := List Value) (gC
  enF g.1.1) (gC enF g.1.1)) /\ ((Plain (gC enF g.1.1)) /\ ((false = false) /\ ((false = false) /\ ((false = false) /\ ((false = false) /\ ((false = false) /\ ((false =
  false) /\ (((0 : Int) = (0 : Int)) /\ (((0 : Int) = (0 : Int)) /\ (((0 : Int) = (0 : Int)) /\ (((0 : Int) = (0 : Int)) /\ ((g.2.1 = g.2.1) /\ ((g.2.2 = g.2.2) /\ ((g.2.3 =
  g.2.3) /\ ((g.2.4 = g.2.4) /\ ((g.2.5 = g.2.5) /\ ((g.2.6 = g.2.6) /\ (((if g.3.1 = [109, 97, 120, 45, 97, 103, 101] then smal g.2.7 (numN (G5.p g)) else g.2.7) = g.2.7)
  /\ (((if g.3.1 = [115, 45, 109, 97, 120, 97, 103, 101] then smal g.2.8 (numN (G5.p g)) else g.2.8) = g.2.8) /\ (((if g.3.1 = [109, 97, 120, 45, 115, 116, 97, 108, 101]
  then smal g.2.9 (if g.3.3 = true then numN (G5.p g) else (2147483647 : Int)) else g.2.9) = if (0 : Int) < g.2.9 then (0 : Int) else g.2.9) /\ (((if g.3.1 = [109, 105, 110,
  45, 102, 114, 101, 115, 104] then smal g.2.10 (numN (G5.p g)) else g.2.10) = g.2.10) /\ ((Eq (α := List Value) (gC enP g.1.2) (gC enP g.1.2)) /\ ((Plain (gC enP g.1.2)) /\
  ((bs g.3.1 = bs g.3.1) /\ ((bs g.3.2 = bs g.3.2) /\ ((g.3.3 = g.3.3) /\ True)))))))))))))))))))))))))))))))))))))) (∃ y : Unit, ((True) /\ ((0 = 0) /\ ((0 = 0) /\ ((0 = 0)
  /\ ((0 = 0) /\ ((List.length g.1.2 = List.length g.1.2) /\ (((↑(List.length g.1.2) : Int) = (↑(List.length g.1.2) : Int)) /\ (((↑g.4 : Int) = (↑g.4 : Int)) /\ ((Eq (α :=
  List Value) (gC enF g.1.1) (gC enF g.1.1)) /\ ((Plain (gC enF g.1.1)) /\ ((false = false) /\ ((false = false) /\ ((false = false) /\ ((false = false) /\ ((false = false)
  /\ ((false = false) /\ (((0 : Int) = (0 : Int)) /\ (((0 : Int) = (0 : Int)) /\ (((0 : Int) = (0 : Int)) /\ (((0 : Int) = (0 : Int)) /\ ((g.2.1 = g.2.1) /\ ((g.2.2 = g.2.2)
  /\ ((g.2.3 = g.2.3) /\ ((g.2.4 = g.2.4) /\ ((g.2.5 = g.2.5) /\ ((g.2.6 = g.2.6) /\ (((if g.3.1 = [109, 97, 120, 45, 97, 103, 101] then smal g.2.7 (numN (G5.p g)) else
  g.2.7) = g.2.7) /\ (((if g.3.1 = [115, 45, 109, 97, 120, 97, 103, 101] then smal g.2.8 (numN (G5.p g)) else g.2.8) = g.2.8) /\ (((if g.3.1 = [109, 97, 120, 45, 115, 116,
  97, 108, 101] then smal g.2.9 (if g.3.3 = true then numN (G5.p g) else (2147483647 : Int)) else g.2.9) = g.2.9) /\ (((if g.3.1 = [109, 105, 110, 45, 102, 114, 101, 115,
  104] then smal g.2.10 (numN (G5.p g)) else g.2.10) = g.2.10) /\ ((Eq (α := List Value) (gC enP g.1.2) (gC enP g.1.2)) /\ ((Plain (gC enP g.1.2)) /\ ((bs g.3.1 = bs g.3.1)
  /\ ((bs g.3.2 = bs g.3.2) /\ ((g.3.3 = g.3.3) /\ True))))))))))))))))))))))))))))))))))))))))) := by kernel_rfl
theorem Co_round (g : GCo) (s : StCo) (Inv : StCo → Prop) (m : StCo → Nat) : mev ECo m56 60 22 (0 :: pCo) false (codeOf Try.prog 22 (0 :: pCo)) ⟨mkOv (slCo g s), 21, []⟩ none ⟨mkR (rlCo g s), 4⟩ (roundK 1 4 21 Inv m (slCo g) (rlCo g) (wsCo g) s) =
  (br (decide ((↑s.2 : Int) < (↑(List.length g.2) : Int))) (br (decide ((0 : Int) <= (↑s.2 : Int) /\ (↑s.2 : Int) < (↑(List.length g.2) : Int))) ((Eq (α := Option Value)
  ((gC enP g.2)[0 + Int.toNat (↑s.2 : Int) * 3]?) (some (Value.string (cellS (gC enP g.2) (0 + Int.toNat (↑s.2 : Int) * 3))))) /\ ((Eq (α := Option Value) ((gC enP g.2)[0 +
  Int.toNat (↑s.2 : Int) * 3 + 1]?) (some (Value.string (cellS (gC enP g.2) (0 + Int.toNat (↑s.2 : Int) * 3 + 1))))) /\ ((Eq (α := Option Value) ((gC enP g.2)[0 + Int.toNat
  (↑s.2 : Int) * 3 + 1 + 1]?) (some (Value.bool (cellB (gC enP g.2) (0 + Int.toNat (↑s.2 : Int) * 3 + 1 + 1))))) /\ (∃ g2 : G5, ((True) /\ ((0 = 0) /\ ((0 = 0) /\ ((0 = 0)
  /\ ((0 = 0) /\ ((List.length g2.1.2 = List.length g.2) /\ (((↑(List.length g2.1.2) : Int) = (↑(List.length g.2) : Int)) /\ (((↑g2.4 : Int) = (↑s.2 : Int)) /\ ((Eq (α :=
  List Value) (gC enF g2.1.1) (gC enF g.1)) /\ ((Plain (gC enF g2.1.1)) /\ ((false = false) /\ ((false = false) /\ ((false = false) /\ ((false = false) /\ ((false = false)
  /\ ((false = false) /\ (((0 : Int) = (0 : Int)) /\ (((0 : Int) = (0 : Int)) /\ (((0 : Int) = (0 : Int)) /\ (((0 : Int) = (0 : Int)) /\ ((g2.2.1 = s.1.1) /\ ((g2.2.2 =
  s.1.2) /\ ((g2.2.3 = s.1.3) /\ ((g2.2.4 = s.1.4) /\ ((g2.2.5 = s.1.5) /\ ((g2.2.6 = s.1.6) /\ ((g2.2.7 = s.1.7) /\ ((g2.2.8 = s.1.8) /\ ((g2.2.9 = s.1.9) /\ ((g2.2.10 =
  s.1.10) /\ ((Eq (α := List Value) (gC enP g2.1.2) (gC enP g.2)) /\ ((Plain (gC enP g2.1.2)) /\ ((bs g2.3.1 = cellS (gC enP g.2) (0 + Int.toNat (↑s.2 : Int) * 3)) /\ ((bs
  g2.3.2 = cellS (gC enP g.2) (0 + Int.toNat (↑s.2 : Int) * 3 + 1)) /\ ((g2.3.3 = cellB (gC enP g.2) (0 + Int.toNat (↑s.2 : Int) * 3 + 1 + 1)) /\ (∀ (y : Unit), ((True) → (∃
  g3 : G5, ((List.length g3.3.2 <= 9223372036854775807) /\ ((0 = 0) /\ ((0 = 0) /\ ((0 = 0) /\ ((0 = 0) /\ ((List.length g3.1.2 = List.length g2.1.2) /\ (((↑(List.length
  g3.1.2) : Int) = (↑(List.length g2.1.2) : Int)) /\ (((↑g3.4 : Int) = (↑g2.4 : Int)) /\ ((Eq (α := List Value) (gC enF g3.1.1) (gC enF g2.1.1)) /\ ((Plain (gC enF g3.1.1))
  /\ ((false = false) /\ ((false = false) /\ ((false = false) /\ ((false = false) /\ ((false = false) /\ ((false = false) /\ (((0 : Int) = (0 : Int)) /\ (((0 : Int) = (0 :
  Int)) /\ (((0 : Int) = (0 : Int)) /\ (((0 : Int) = (0 : Int)) /\ ((g3.2.1 = (g2.2.1 || decide (g2.3.1 = [110, 111, 45, 115, 116, 111, 114, 101]))) /\ ((g3.2.2 = (g2.2.2 ||
  decide (g2.3.1 = [110, 111, 45, 99, 97, 99, 104, 101]))) /\ ((g3.2.3 = (g2.2.3 || decide (g2.3.1 = [112, 114, 105, 118, 97, 116, 101]))) /\ ((g3.2.4 = (g2.2.4 || decide
  (g2.3.1 = [112, 117, 98, 108, 105, 99]))) /\ ((g3.2.5 = (g2.2.5 || (decide (g2.3.1 = [109, 117, 115, 116, 45, 114, 101, 118, 97, 108, 105, 100, 97, 116, 101]) || decide
  (g2.3.1 = [112, 114, 111, 120, 121, 45, 114, 101, 118, 97, 108, 105, 100, 97, 116, 101])))) /\ ((g3.2.6 = (g2.2.6 || decide (g2.3.1 = [111, 110, 108, 121, 45, 105, 102,
  45, 99, 97, 99, 104, 101, 100]))) /\ ((g3.2.7 = g2.2.7) /\ ((g3.2.8 = g2.2.8) /\ ((g3.2.9 = g2.2.9) /\ ((g3.2.10 = g2.2.10) /\ ((Eq (α := List Value) (gC enP g3.1.2) (gC
  enP g2.1.2)) /\ ((Plain (gC enP g3.1.2)) /\ ((bs g3.3.1 = bs g2.3.1) /\ ((bs g3.3.2 = bs g2.3.2) /\ ((g3.3.3 = g2.3.3) /\ (∀ (y2 : Unit), ((True) → (∃ j : StCo, ((Inv j)
  /\ ((m j < m s) /\ ((0 = 0) /\ ((0 = 0) /\ ((0 = 0) /\ ((List.length g.2 = List.length g3.1.2) /\ (((↑(List.length g.2) : Int) = (↑(List.length g3.1.2) : Int)) /\ (((↑j.2
  : Int) = IntKind.wrap IntKind.i64 ((↑g3.4 : Int) + (1 : Int))) /\ ((Eq (α := List Value) (gC enF g.1) (gC enF g3.1.1)) /\ ((Plain (gC enF g.1)) /\ ((false = false) /\
  ((false = false) /\ ((false = false) /\ ((false = false) /\ ((false = false) /\ ((false = false) /\ (((0 : Int) = (0 : Int)) /\ (((0 : Int) = (0 : Int)) /\ (((0 : Int) =
  (0 : Int)) /\ (((0 : Int) = (0 : Int)) /\ ((j.1.1 = g3.2.1) /\ ((j.1.2 = g3.2.2) /\ ((j.1.3 = g3.2.3) /\ ((j.1.4 = g3.2.4) /\ ((j.1.5 = g3.2.5) /\ ((j.1.6 = g3.2.6) /\
  ((j.1.7 = if g3.3.1 = [109, 97, 120, 45, 97, 103, 101] then smal g3.2.7 (numN (G5.p g3)) else g3.2.7) /\ ((j.1.8 = if g3.3.1 = [115, 45, 109, 97, 120, 97, 103, 101] then
  smal g3.2.8 (numN (G5.p g3)) else g3.2.8) /\ ((j.1.9 = if g3.3.1 = [109, 97, 120, 45, 115, 116, 97, 108, 101] then smal g3.2.9 (if g3.3.3 = true then numN (G5.p g3) else
  (2147483647 : Int)) else g3.2.9) /\ ((j.1.10 = if g3.3.1 = [109, 105, 110, 45, 102, 114, 101, 115, 104] then smal g3.2.10 (numN (G5.p g3)) else g3.2.10) /\ ((Eq (α := List
  Value) (gC enP g.2) (gC enP g3.1.2)) /\ ((Plain (gC enP g.2)) /\
  True)))))))))))))))))))))))))))))))))))))))))))))))))))))))))))))))))))))))))))))))))))))))))))))))))))))))))))))))) False) (∃ y : Unit, ((True) /\ ((0 = 0) /\ ((0 = 0) /\
  ((Eq (α := List Value) (gC enF g.1) (gC enF g.1)) /\ ((Plain (gC enF g.1)) /\ ((false = false) /\ ((false = false) /\ ((false = false) /\ ((false = false) /\ ((false =
  false) /\ ((false = false) /\ (((0 : Int) = (0 : Int)) /\ (((0 : Int) = (0 : Int)) /\ (((0 : Int) = (0 : Int)) /\ (((0 : Int) = (0 : Int)) /\ (((ctlP g.2).1 = s.1.1) /\
  (((ctlP g.2).2 = s.1.2) /\ (((ctlP g.2).3 = s.1.3) /\ (((ctlP g.2).4 = s.1.4) /\ (((ctlP g.2).5 = s.1.5) /\ (((ctlP g.2).6 = s.1.6) /\ (((ctlP g.2).7 = s.1.7) /\ (((ctlP
  g.2).8 = s.1.8) /\ (((ctlP g.2).9 = s.1.9) /\ (((ctlP g.2).10 = s.1.10) /\ True))))))))))))))))))))))))))) := by kernel_rfl
theorem Co_vc (l : List Fl) (c : Ct) : mcall ECo mCo 60 22 [.slice (some ⟨0, 0, none⟩) l.length 2] ⟨mkR (nums 0 [gRo enF l]), 1⟩ (retIs 1 (ctV c) [gRo enF l]) =
  (((((0 + List.length l * 2 <= List.length (gC enF l) /\ Plain (List.take (List.length l * 2) (List.drop 0 (gC enF l)))) /\ (True /\ True)) /\ ((Plain (prC (Row.mk
  (List.take (List.length l * 2) (List.drop 0 (gC enF l))) true (Ob.cells true)) (ByteArray.mk #[99, 97, 99, 104, 101, 45, 99, 111, 110, 116, 114, 111, 108])) /\ True) /\
  (IsF (Row.mk (List.take (List.length l * 2) (List.drop 0 (gC enF l))) true (Ob.cells true)) (List.length l) /\ (List.length l <= 9223372036854775807 /\ alB (Row.mk
  (List.take (List.length l * 2) (List.drop 0 (gC enF l))) true (Ob.cells true)) (ByteArray.mk #[99, 97, 99, 104, 101, 45, 99, 111, 110, 116, 114, 111, 108]) <=
  16777000))))) /\ (∃ g : GCo, ((List.length g.2 <= 9223372036854775807 /\ ∀ (p : Pr), p ∈ GCo.ps g → List.length (Pr.v p) <= maxLen) /\ ((0 = 0) /\ ((0 = 0) /\ ((0 = 0) /\
  ((List.length g.2 = prN (Row.mk (List.take (List.length l * 2) (List.drop 0 (gC enF l))) true (Ob.cells true)) (ByteArray.mk #[99, 97, 99, 104, 101, 45, 99, 111, 110, 116,
  114, 111, 108])) /\ (((↑(List.length g.2) : Int) = Int.ofNat (prN (Row.mk (List.take (List.length l * 2) (List.drop 0 (gC enF l))) true (Ob.cells true)) (ByteArray.mk
  #[99, 97, 99, 104, 101, 45, 99, 111, 110, 116, 114, 111, 108]))) /\ (((0 : Int) = (0 : Int)) /\ ((Eq (α := List Value) (gC enF g.1) (gC enF l)) /\ ((Plain (gC enF g.1)) /\
  ((false = false) /\ ((false = false) /\ ((false = false) /\ ((false = false) /\ ((false = false) /\ ((false = false) /\ (((0 : Int) = (0 : Int)) /\ (((0 : Int) = (0 :
  Int)) /\ (((0 : Int) = (0 : Int)) /\ (((0 : Int) = (0 : Int)) /\ ((false = false) /\ ((false = false) /\ ((false = false) /\ ((false = false) /\ ((false = false) /\
  ((false = false) /\ (((-1 : Int) = (-1 : Int)) /\ (((-1 : Int) = (-1 : Int)) /\ (((-1 : Int) = (-1 : Int)) /\ (((-1 : Int) = (-1 : Int)) /\ ((Eq (α := List Value) (gC enP
  g.2) (prC (Row.mk (List.take (List.length l * 2) (List.drop 0 (gC enF l))) true (Ob.cells true)) (ByteArray.mk #[99, 97, 99, 104, 101, 45, 99, 111, 110, 116, 114, 111,
  108]))) /\ ((Plain (gC enP g.2)) /\ (∀ (y : Unit), ((True) → ((c.1 = (ctlP g.2).1) /\ ((c.2 = (ctlP g.2).2) /\ ((c.3 = (ctlP g.2).3) /\ ((c.4 = (ctlP g.2).4) /\ ((c.5 =
  (ctlP g.2).5) /\ ((c.6 = (ctlP g.2).6) /\ ((c.7 = (ctlP g.2).7) /\ ((c.8 = (ctlP g.2).8) /\ ((c.9 = (ctlP g.2).9) /\ ((c.10 = (ctlP g.2).10) /\ ((Eq (α := List Value) (gC
  enF l) (gC enF g.1)) /\ ((Plain (gC enF l)) /\ True))))))))))))))))))))))))))))))))))))))))))))))) := by kernel_rfl
theorem cCo_ok : ∀ f a rows p v news, cCo f a rows = some (p, v, news) → p → Con Try.prog f a rows v (rows ++ news) := by
  intro f a rows p v news h hp
  unfold cCo at h
  split at h <;> simp only [Option.some.injEq, Prod.mk.injEq, reduceCtorEq] at h <;> obtain ⟨rfl, rfl, rfl⟩ := h
  · obtain ⟨⟨l, rfl, rfl⟩, h1, h2⟩ := hp
    have e : decF (gRo enF l).cells = l := decF_gC l
    simp only [prN, prC, prL, alB, e] at h2 ⊢
    exact Pa_con l (L _) h1 h2
  · exact Se_con (L _) hp
theorem five_piece : PieceOk ECo 1 (22, pCo5, spec5) := by
  refine piece_code mixed (calls_envC cCo_ok) (lok_envC _ _ _) lm_none (n := 60) (fun g _ => (five_vc g).mpr ?_)
  simp only [mk_bs, strEq_bs, fPl, pPl, and_true, true_and]
  repeat' refine br_intro (fun _ => ?_) (fun _ => ?_)
  all_goals (refine ⟨(), ?_⟩; simp_all)
theorem six_piece : PieceOk ECo 1 (22, pCo6, spec6) := by
  refine piece_code mixed (calls_envC cCo_ok) (lok_envC _ _ _) lm_none (n := 60) (fun g hg => (six_vc g).mpr ?_)
  have hs : secS (bs g.p.v) = secL g.p.v := rfl
  have hg' : g.p.v.length ≤ 9223372036854775807 := by simpa [maxLen] using hg
  simp only [mk_bs, strEq_bs, fPl, pPl, and_true, true_and, bs_len, hs]
  obtain ⟨⟨l, ps⟩, ⟨a, b, c, d, e, f, ma, sh, st, fr⟩, ⟨n, v, h⟩, i⟩ := g
  cases h
  · simp only [numN, smal]
    refine br_nb rfl ?_
    repeat' refine br_intro (fun _ => ?_) (fun _ => ?_)
    all_goals (refine ⟨(), ?_⟩; simp_all)
    all_goals grind
  · simp only [numN, smal]
    refine br_b rfl ⟨hg', ?_⟩
    repeat' refine br_intro (fun _ => ?_) (fun _ => ?_)
    all_goals (refine ⟨(), ?_⟩; simp_all)
    all_goals grind
theorem Co_piece : PieceOk ECo 1 (22, pCo, specCo) := by
  refine piece_loop mixed (calls_envC cCo_ok) (lok_envC _ _ _) (lm_two five_piece six_piece) (n := 60) (by kernel_rfl) (fun _ : GCo => (⟨c0, 0⟩ : StCo)) (fun g s => s.i ≤ g.ps.length ∧ (g.ps.drop s.i).foldl stepC s.c = ctlP g.ps) (fun g s => g.ps.length - s.i) (sl := slCo) (rl := rlCo) (fun g hg => ⟨Nat.zero_le _, rfl⟩) (fun g s hg hi => ?_)
  refine (Co_round g s _ _).mpr ?_
  obtain ⟨l, ps⟩ := g
  obtain ⟨c, i⟩ := s
  obtain ⟨h1, h3⟩ := hi
  obtain ⟨g1, g2⟩ := hg
  have hm : maxLen = 9223372036854775807 := by unfold maxLen; rfl
  simp only at h1 h3 g1 g2
  simp only [ofNat_eq, toNat_cast, Nat.zero_add, Nat.add_zero, Nat.mul_one, List.drop_zero, bCells_len, bCells_drop, bCells_take, bCells_app, bCells_one, bCells_plain, List.length_replicate, List.length_append, List.length_take, List.length_drop, List.take_length, and_true, true_and, and_self, decide_true, List.length_nil, List.length_cons, Nat.sub_zero, dB_mk, dB_ro, List.take_zero, fPl, pPl]
  refine br_if (fun h => br_dec (by omega) ?_) (fun h => ?_)
  rotate_left
  · have hz : ps.drop i = [] := List.drop_eq_nil_of_le (by omega)
    rw [hz, List.foldl_nil] at h3
    subst h3
    refine ⟨(), ?_⟩
    simp
  have hi : i < ps.length := by omega
  obtain ⟨d1, d2, d3, d4, d5, d6⟩ := pGet ps i hi
  have hd := List.drop_eq_getElem_cons hi
  rw [hd, List.foldl_cons] at h3
  have w := i64_succ (show i < 9223372036854775807 by omega)
  simp only [d1, d2, d3, d4, d5, d6, true_and, w]
  refine ⟨⟨⟨l, ps⟩, c, ps[i], i⟩, ?_⟩
  repeat (refine ⟨rfl, ?_⟩)
  refine fun _ _ => ⟨⟨⟨l, ps⟩, flagC c ps[i].n, ps[i], i⟩, ?_, ?_⟩
  · have := g2 _ (List.getElem_mem hi); simpa [maxLen] using this
  repeat (refine ⟨rfl, ?_⟩)
  refine fun _ _ => ⟨⟨stepC c ps[i], i + 1⟩, ⟨by simp only; omega, h3⟩, by simp only; omega, ?_⟩
  repeat (first | rfl | refine ⟨rfl, ?_⟩ | refine ⟨w.symm, ?_⟩)
theorem Co_con (l : List Fl) (hl : l.length ≤ maxLen) (h : (allL l sCC).length ≤ 16777000) : Con Try.prog 22 [.slice (some ⟨0, 0, none⟩) l.length 2] [gRo enF l] (ctV (ctlL l)) [gRo enF l] := by
  refine con_vc (E := ECo) mixed (calls_envC cCo_ok) (lok_envC _ _ _) (M := mCo) (lm_one Co_piece) (Co_vc l _) ?_
  have hm : maxLen = 9223372036854775807 := by unfold maxLen; rfl
  have e1 : ∀ b o, prN ⟨gC enF l, b, o⟩ (bs sCC) = (pairsL l sCC).length := fun b o => by unfold prN prL; simp only; rw [decF_gC, L_bs]
  have e2 : ∀ b o, prC ⟨gC enF l, b, o⟩ (bs sCC) = gC enP (pairsL l sCC) := fun b o => by unfold prC prL; simp only; rw [decF_gC, L_bs]
  have e3 : ∀ b o, alB ⟨gC enF l, b, o⟩ (bs sCC) = (allL l sCC).length := fun b o => by unfold alB; simp only; rw [decF_gC, L_bs]
  have e4 : (⟨#[99, 97, 99, 104, 101, 45, 99, 111, 110, 116, 114, 111, 108]⟩ : ByteArray) = bs sCC := rfl
  simp only [ofNat_eq, toNat_cast, Nat.zero_add, Nat.add_zero, Nat.mul_one, List.drop_zero, bCells_len, bCells_drop, bCells_take, bCells_app, bCells_one, bCells_plain, List.length_replicate, List.length_append, List.length_take, List.length_drop, List.take_length, and_true, true_and, and_self, decide_true, List.length_nil, List.length_cons, Nat.sub_zero, dB_mk, dB_ro, List.take_zero, e4, fTake, fLen, fPl, pPl, e1, e2, e3]
  refine ⟨⟨Nat.le_refl _, isF_mk _ _ rfl, by omega, h⟩, ⟨l, pairsL l sCC⟩, ⟨?_, ?_⟩, ?_⟩
  · have := (pairs_len l sCC).1; simp only; omega
  · intro p hp; have := ((pairs_len l sCC).2 p hp).2; omega
  repeat (refine ⟨rfl, ?_⟩)
  refine fun _ _ => ?_
  repeat (first | rfl | refine ⟨rfl, ?_⟩)
end Go.Proofs.Ytideeogedleabaa.tk
