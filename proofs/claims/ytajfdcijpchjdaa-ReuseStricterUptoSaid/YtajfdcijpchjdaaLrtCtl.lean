/- What fields cache-control say, by the document. -/
import Derived.Test.YtajfdcijpchjdaaSz9
import Derived.Test.YtajfdcijpchjdaaRows
import Derived.Test.YtajfdcijpchjdaaLrtNum
import Derived.Test.YtajfdcijpchjdaaLrtPairs
set_option maxRecDepth 20000
set_option linter.unusedSimpArgs false
set_option linter.unusedVariables false
namespace Go.Proofs.Ytajfdcijpchjdaa.tk
open Go Go.Ev Go.Sy Go.RowKit Go.Proofs.Ytajfdcijpchjdaa.gl
def cRc : FuncId → List Value → List Row → Option (Prop × Value × List Row)
  | 22, [.slice (some ⟨0, 0, none⟩) n 2, .string s], [r0] => some (IsF r0 n ∧ n ≤ maxLen ∧ alB r0 s ≤ 16777000, .slice (some ⟨1, 0, none⟩) (prN r0 s) 3, [⟨prC r0 s, false, .cells true⟩])
  | 23, [.string s], [] => some ((L s).length ≤ maxLen, .int .i64 (secS s), [])
  | _, _, _ => none
noncomputable abbrev ERc : Env := envC Try.prog cRc (fun f => Nat.beq f 22 || Nat.beq f 23)
def pRc : List Nat := [0, 1, 0, 1, 1, 1]
structure GRc where
  l : List Fl
  ps : List Pr
structure StRc where
  c : Ct
  i : Nat
def ctRow2 (c : Ct) : Row := ⟨enC c, false, .cells false⟩
def slRc (g : GRc) (s : StRc) : List (Nat × Value) := [(2, .pointer (some ⟨1, 0, none⟩)), (3, .pointer (some ⟨2, 0, none⟩)), (4, .slice (some ⟨3, 0, none⟩) g.ps.length 3), (5, .int .i64 (s.i : Nat))]
def rlRc (g : GRc) (s : StRc) : List (Nat × Row) := [(0, gRo enF g.l), (1, ctRow2 cz), (2, ctRow2 s.c), (3, gOwn enP g.ps)]
def wsRc (g : GRc) : List (Gate Unit) := [⟨.exit 0, fun _ => True, fun _ => [(2, .pointer (some ⟨1, 0, none⟩)), (3, .pointer (some ⟨2, 0, none⟩))], fun _ => [(0, gRo enF g.l), (1, ctRow2 cz), (2, ctRow2 (ctlP g.ps))], 3⟩]
def specRc : Sy.Spec := specOf 1 4 88 (fun g : GRc => g.ps.length ≤ maxLen ∧ ∀ p ∈ g.ps, p.v.length ≤ maxLen) (fun g => slRc g ⟨c0, 0⟩) (fun g => rlRc g ⟨c0, 0⟩) wsRc
def mRc := mOf [(13, pRc, specRc)]
def okC (c : Ct) : Prop := -1 ≤ c.ma ∧ -1 ≤ c.sh ∧ -1 ≤ c.st ∧ -1 ≤ c.fr
theorem Rc_round (g : GRc) (s : StRc) (Inv : StRc → Prop) (m : StRc → Nat) : mev ERc noM 60 13 (0 :: pRc) false (codeOf Try.prog 13 (0 :: pRc)) ⟨mkOv (slRc g s), 88, []⟩ none ⟨mkR (rlRc g s), 4⟩ (roundK 1 4 88 Inv m (slRc g) (rlRc g) (wsRc g) s) =
  let z1 := ((Eq (α := List Value) (gC enP g.2) (gC enP g.2)) /\ ((Plain (gC enP g.2)) /\ True)); let z2 := (Eq (α := List Value) (gC enF g.1) (gC enF g.1)); let z3 :=
  (cellS (gC enP g.2) (0 + Int.toNat (↑s.2 : Int) * 3 + 1)); let z4 := (cellS (gC enP g.2) (0 + Int.toNat (↑s.2 : Int) * 3 + 0)); let z5 := (decide ((0 : Int) <= (↑s.2 :
  Int) /\ (↑s.2 : Int) < (↑(List.length g.2) : Int))); let z6 := (Eq (α := Option Value) ((gC enP g.2)[0 + Int.toNat (↑s.2 : Int) * 3 + 2]?) (some (Value.bool (cellB (gC enP
  g.2) (0 + Int.toNat (↑s.2 : Int) * 3 + 2))))); let z7 := (if (0 : Int) > secS z3 then (0 : Int) else secS z3); let z8 := (strEq z4 (ByteArray.mk #[112, 114, 111, 120, 121,
  45, 114, 101, 118, 97, 108, 105, 100, 97, 116, 101])); let z9 := (Eq (α := Option Value) ((gC enP g.2)[0 + Int.toNat (↑s.2 : Int) * 3 + 0]?) (some (Value.string z4))); let
  z10 := (strEq z4 (ByteArray.mk #[109, 117, 115, 116, 45, 114, 101, 118, 97, 108, 105, 100, 97, 116, 101])); let z11 := (strEq z4 (ByteArray.mk #[111, 110, 108, 121, 45,
  105, 102, 45, 99, 97, 99, 104, 101, 100])); let z12 := (strEq z4 (ByteArray.mk #[109, 105, 110, 45, 102, 114, 101, 115, 104])); let z13 := (strEq z4 (ByteArray.mk #[109,
  97, 120, 45, 115, 116, 97, 108, 101])); let z14 := (strEq z4 (ByteArray.mk #[110, 111, 45, 115, 116, 111, 114, 101])); let z15 := (strEq z4 (ByteArray.mk #[115, 45, 109,
  97, 120, 97, 103, 101])); let z16 := (strEq z4 (ByteArray.mk #[110, 111, 45, 99, 97, 99, 104, 101])); let z17 := (strEq z4 (ByteArray.mk #[112, 114, 105, 118, 97, 116,
  101])); let z18 := (strEq z4 (ByteArray.mk #[109, 97, 120, 45, 97, 103, 101])); let z19 := (!cellB (gC enP g.2) (0 + Int.toNat (↑s.2 : Int) * 3 + 2)); let z20 := (strEq z4
  (ByteArray.mk #[112, 117, 98, 108, 105, 99])); (br (decide ((↑s.2 : Int) < Int.ofNat (List.length g.2))) (br z5 (z6 /\ (br (cellB (gC enP g.2) (0 + Int.toNat (↑s.2 : Int)
  * 3 + 2)) (br z5 ((Eq (α := Option Value) ((gC enP g.2)[0 + Int.toNat (↑s.2 : Int) * 3 + 1]?) (some (Value.string z3))) /\ ((((True /\ True) /\ (True /\ List.length (L z3)
  <= 9223372036854775807))) /\ (br z5 (z9 /\ (br z14 (∃ j : StRc, ((Inv j) /\ ((m j < m s) /\ ((0 = 0) /\ ((0 = 0) /\ ((0 = 0) /\ ((List.length g.2 = List.length g.2) /\
  (((↑j.2 : Int) = IntKind.wrap IntKind.i64 ((↑s.2 : Int) + (1 : Int))) /\ (z2 /\ ((Plain (gC enF g.1)) /\ ((false = false) /\ ((false = false) /\ ((false = false) /\
  ((false = false) /\ ((false = false) /\ ((false = false) /\ (((0 : Int) = (0 : Int)) /\ (((0 : Int) = (0 : Int)) /\ (((0 : Int) = (0 : Int)) /\ (((0 : Int) = (0 : Int)) /\
  ((j.1.1 = true) /\ ((j.1.2 = s.1.2) /\ ((j.1.3 = s.1.3) /\ ((j.1.4 = s.1.4) /\ ((j.1.5 = s.1.5) /\ ((j.1.6 = s.1.6) /\ ((j.1.7 = s.1.7) /\ ((j.1.8 = s.1.8) /\ ((j.1.9 =
  s.1.9) /\ ((j.1.10 = s.1.10) /\ z1)))))))))))))))))))))))))))))) (br z16 (∃ j : StRc, ((Inv j) /\ ((m j < m s) /\ ((0 = 0) /\ ((0 = 0) /\ ((0 = 0) /\ ((List.length g.2 =
  List.length g.2) /\ (((↑j.2 : Int) = IntKind.wrap IntKind.i64 ((↑s.2 : Int) + (1 : Int))) /\ (z2 /\ ((Plain (gC enF g.1)) /\ ((false = false) /\ ((false = false) /\
  ((false = false) /\ ((false = false) /\ ((false = false) /\ ((false = false) /\ (((0 : Int) = (0 : Int)) /\ (((0 : Int) = (0 : Int)) /\ (((0 : Int) = (0 : Int)) /\ (((0 :
  Int) = (0 : Int)) /\ ((j.1.1 = s.1.1) /\ ((j.1.2 = true) /\ ((j.1.3 = s.1.3) /\ ((j.1.4 = s.1.4) /\ ((j.1.5 = s.1.5) /\ ((j.1.6 = s.1.6) /\ ((j.1.7 = s.1.7) /\ ((j.1.8 =
  s.1.8) /\ ((j.1.9 = s.1.9) /\ ((j.1.10 = s.1.10) /\ z1)))))))))))))))))))))))))))))) (br z17 (∃ j : StRc, ((Inv j) /\ ((m j < m s) /\ ((0 = 0) /\ ((0 = 0) /\ ((0 = 0) /\
  ((List.length g.2 = List.length g.2) /\ (((↑j.2 : Int) = IntKind.wrap IntKind.i64 ((↑s.2 : Int) + (1 : Int))) /\ (z2 /\ ((Plain (gC enF g.1)) /\ ((false = false) /\
  ((false = false) /\ ((false = false) /\ ((false = false) /\ ((false = false) /\ ((false = false) /\ (((0 : Int) = (0 : Int)) /\ (((0 : Int) = (0 : Int)) /\ (((0 : Int) =
  (0 : Int)) /\ (((0 : Int) = (0 : Int)) /\ ((j.1.1 = s.1.1) /\ ((j.1.2 = s.1.2) /\ ((j.1.3 = true) /\ ((j.1.4 = s.1.4) /\ ((j.1.5 = s.1.5) /\ ((j.1.6 = s.1.6) /\ ((j.1.7 =
  s.1.7) /\ ((j.1.8 = s.1.8) /\ ((j.1.9 = s.1.9) /\ ((j.1.10 = s.1.10) /\ z1)))))))))))))))))))))))))))))) (br z20 (∃ j : StRc, ((Inv j) /\ ((m j < m s) /\ ((0 = 0) /\ ((0 =
  0) /\ ((0 = 0) /\ ((List.length g.2 = List.length g.2) /\ (((↑j.2 : Int) = IntKind.wrap IntKind.i64 ((↑s.2 : Int) + (1 : Int))) /\ (z2 /\ ((Plain (gC enF g.1)) /\ ((false
  = false) /\ ((false = false) /\ ((false = false) /\ ((false = false) /\ ((false = false) /\ ((false = false) /\ (((0 : Int) = (0 : Int)) /\ (((0 : Int) = (0 : Int)) /\
  (((0 : Int) = (0 : Int)) /\ (((0 : Int) = (0 : Int)) /\ ((j.1.1 = s.1.1) /\ ((j.1.2 = s.1.2) /\ ((j.1.3 = s.1.3) /\ ((j.1.4 = true) /\ ((j.1.5 = s.1.5) /\ ((j.1.6 = s.1.6)
  /\ ((j.1.7 = s.1.7) /\ ((j.1.8 = s.1.8) /\ ((j.1.9 = s.1.9) /\ ((j.1.10 = s.1.10) /\ z1)))))))))))))))))))))))))))))) (br z10 (∃ j : StRc, ((Inv j) /\ ((m j < m s) /\ ((0
  = 0) /\ ((0 = 0) /\ ((0 = 0) /\ ((List.length g.2 = List.length g.2) /\ (((↑j.2 : Int) = IntKind.wrap IntKind.i64 ((↑s.2 : Int) + (1 : Int))) /\ (z2 /\ ((Plain (gC enF
  g.1)) /\ ((false = false) /\ ((false = false) /\ ((false = false) /\ ((false = false) /\ ((false = false) /\ ((false = false) /\ (((0 : Int) = (0 : Int)) /\ (((0 : Int) =
  (0 : Int)) /\ (((0 : Int) = (0 : Int)) /\ (((0 : Int) = (0 : Int)) /\ ((j.1.1 = s.1.1) /\ ((j.1.2 = s.1.2) /\ ((j.1.3 = s.1.3) /\ ((j.1.4 = s.1.4) /\ ((j.1.5 = true) /\
  ((j.1.6 = s.1.6) /\ ((j.1.7 = s.1.7) /\ ((j.1.8 = s.1.8) /\ ((j.1.9 = s.1.9) /\ ((j.1.10 = s.1.10) /\ z1)))))))))))))))))))))))))))))) (br z8 (∃ j : StRc, ((Inv j) /\ ((m
  j < m s) /\ ((0 = 0) /\ ((0 = 0) /\ ((0 = 0) /\ ((List.length g.2 = List.length g.2) /\ (((↑j.2 : Int) = IntKind.wrap IntKind.i64 ((↑s.2 : Int) + (1 : Int))) /\ (z2 /\
  ((Plain (gC enF g.1)) /\ ((false = false) /\ ((false = false) /\ ((false = false) /\ ((false = false) /\ ((false = false) /\ ((false = false) /\ (((0 : Int) = (0 : Int))
  /\ (((0 : Int) = (0 : Int)) /\ (((0 : Int) = (0 : Int)) /\ (((0 : Int) = (0 : Int)) /\ ((j.1.1 = s.1.1) /\ ((j.1.2 = s.1.2) /\ ((j.1.3 = s.1.3) /\ ((j.1.4 = s.1.4) /\
  ((j.1.5 = true) /\ ((j.1.6 = s.1.6) /\ ((j.1.7 = s.1.7) /\ ((j.1.8 = s.1.8) /\ ((j.1.9 = s.1.9) /\ ((j.1.10 = s.1.10) /\ z1)))))))))))))))))))))))))))))) (br z11 (∃ j :
  StRc, ((Inv j) /\ ((m j < m s) /\ ((0 = 0) /\ ((0 = 0) /\ ((0 = 0) /\ ((List.length g.2 = List.length g.2) /\ (((↑j.2 : Int) = IntKind.wrap IntKind.i64 ((↑s.2 : Int) + (1
  : Int))) /\ (z2 /\ ((Plain (gC enF g.1)) /\ ((false = false) /\ ((false = false) /\ ((false = false) /\ ((false = false) /\ ((false = false) /\ ((false = false) /\ (((0 :
  Int) = (0 : Int)) /\ (((0 : Int) = (0 : Int)) /\ (((0 : Int) = (0 : Int)) /\ (((0 : Int) = (0 : Int)) /\ ((j.1.1 = s.1.1) /\ ((j.1.2 = s.1.2) /\ ((j.1.3 = s.1.3) /\
  ((j.1.4 = s.1.4) /\ ((j.1.5 = s.1.5) /\ ((j.1.6 = true) /\ ((j.1.7 = s.1.7) /\ ((j.1.8 = s.1.8) /\ ((j.1.9 = s.1.9) /\ ((j.1.10 = s.1.10) /\
  z1)))))))))))))))))))))))))))))) (br z18 (br (decide (s.1.7 < (0 : Int))) (∃ j : StRc, ((Inv j) /\ ((m j < m s) /\ ((0 = 0) /\ ((0 = 0) /\ ((0 = 0) /\ ((List.length g.2 =
  List.length g.2) /\ (((↑j.2 : Int) = IntKind.wrap IntKind.i64 ((↑s.2 : Int) + (1 : Int))) /\ (z2 /\ ((Plain (gC enF g.1)) /\ ((false = false) /\ ((false = false) /\
  ((false = false) /\ ((false = false) /\ ((false = false) /\ ((false = false) /\ (((0 : Int) = (0 : Int)) /\ (((0 : Int) = (0 : Int)) /\ (((0 : Int) = (0 : Int)) /\ (((0 :
  Int) = (0 : Int)) /\ ((j.1.1 = s.1.1) /\ ((j.1.2 = s.1.2) /\ ((j.1.3 = s.1.3) /\ ((j.1.4 = s.1.4) /\ ((j.1.5 = s.1.5) /\ ((j.1.6 = s.1.6) /\ ((j.1.7 = if (0 : Int) > secS
  z3 then (0 : Int) else secS z3) /\ ((j.1.8 = s.1.8) /\ ((j.1.9 = s.1.9) /\ ((j.1.10 = s.1.10) /\ z1)))))))))))))))))))))))))))))) (∃ j : StRc, ((Inv j) /\ ((m j < m s) /\
  ((0 = 0) /\ ((0 = 0) /\ ((0 = 0) /\ ((List.length g.2 = List.length g.2) /\ (((↑j.2 : Int) = IntKind.wrap IntKind.i64 ((↑s.2 : Int) + (1 : Int))) /\ (z2 /\ ((Plain (gC enF
  g.1)) /\ ((false = false) /\ ((false = false) /\ ((false = false) /\ ((false = false) /\ ((false = false) /\ ((false = false) /\ (((0 : Int) = (0 : Int)) /\ (((0 : Int) =
  (0 : Int)) /\ (((0 : Int) = (0 : Int)) /\ (((0 : Int) = (0 : Int)) /\ ((j.1.1 = s.1.1) /\ ((j.1.2 = s.1.2) /\ ((j.1.3 = s.1.3) /\ ((j.1.4 = s.1.4) /\ ((j.1.5 = s.1.5) /\
  ((j.1.6 = s.1.6) /\ ((j.1.7 = if z7 < s.1.7 then if (0 : Int) > secS z3 then (0 : Int) else secS z3 else s.1.7) /\ ((j.1.8 = s.1.8) /\ ((j.1.9 = s.1.9) /\ ((j.1.10 =
  s.1.10) /\ z1))))))))))))))))))))))))))))))) (br z15 (br (decide (s.1.8 < (0 : Int))) (∃ j : StRc, ((Inv j) /\ ((m j < m s) /\ ((0 = 0) /\ ((0 = 0) /\ ((0 = 0) /\
  ((List.length g.2 = List.length g.2) /\ (((↑j.2 : Int) = IntKind.wrap IntKind.i64 ((↑s.2 : Int) + (1 : Int))) /\ (z2 /\ ((Plain (gC enF g.1)) /\ ((false = false) /\
  ((false = false) /\ ((false = false) /\ ((false = false) /\ ((false = false) /\ ((false = false) /\ (((0 : Int) = (0 : Int)) /\ (((0 : Int) = (0 : Int)) /\ (((0 : Int) =
  (0 : Int)) /\ (((0 : Int) = (0 : Int)) /\ ((j.1.1 = s.1.1) /\ ((j.1.2 = s.1.2) /\ ((j.1.3 = s.1.3) /\ ((j.1.4 = s.1.4) /\ ((j.1.5 = s.1.5) /\ ((j.1.6 = s.1.6) /\ ((j.1.7 =
  s.1.7) /\ ((j.1.8 = if (0 : Int) > secS z3 then (0 : Int) else secS z3) /\ ((j.1.9 = s.1.9) /\ ((j.1.10 = s.1.10) /\ z1)))))))))))))))))))))))))))))) (∃ j : StRc, ((Inv j)
  /\ ((m j < m s) /\ ((0 = 0) /\ ((0 = 0) /\ ((0 = 0) /\ ((List.length g.2 = List.length g.2) /\ (((↑j.2 : Int) = IntKind.wrap IntKind.i64 ((↑s.2 : Int) + (1 : Int))) /\ (z2
  /\ ((Plain (gC enF g.1)) /\ ((false = false) /\ ((false = false) /\ ((false = false) /\ ((false = false) /\ ((false = false) /\ ((false = false) /\ (((0 : Int) = (0 :
  Int)) /\ (((0 : Int) = (0 : Int)) /\ (((0 : Int) = (0 : Int)) /\ (((0 : Int) = (0 : Int)) /\ ((j.1.1 = s.1.1) /\ ((j.1.2 = s.1.2) /\ ((j.1.3 = s.1.3) /\ ((j.1.4 = s.1.4)
  /\ ((j.1.5 = s.1.5) /\ ((j.1.6 = s.1.6) /\ ((j.1.7 = s.1.7) /\ ((j.1.8 = if z7 < s.1.8 then if (0 : Int) > secS z3 then (0 : Int) else secS z3 else s.1.8) /\ ((j.1.9 =
  s.1.9) /\ ((j.1.10 = s.1.10) /\ z1))))))))))))))))))))))))))))))) (br z12 (br (decide (s.1.10 < (0 : Int))) (∃ j : StRc, ((Inv j) /\ ((m j < m s) /\ ((0 = 0) /\ ((0 = 0)
  /\ ((0 = 0) /\ ((List.length g.2 = List.length g.2) /\ (((↑j.2 : Int) = IntKind.wrap IntKind.i64 ((↑s.2 : Int) + (1 : Int))) /\ (z2 /\ ((Plain (gC enF g.1)) /\ ((false =
  false) /\ ((false = false) /\ ((false = false) /\ ((false = false) /\ ((false = false) /\ ((false = false) /\ (((0 : Int) = (0 : Int)) /\ (((0 : Int) = (0 : Int)) /\ (((0
  : Int) = (0 : Int)) /\ (((0 : Int) = (0 : Int)) /\ ((j.1.1 = s.1.1) /\ ((j.1.2 = s.1.2) /\ ((j.1.3 = s.1.3) /\ ((j.1.4 = s.1.4) /\ ((j.1.5 = s.1.5) /\ ((j.1.6 = s.1.6) /\
  ((j.1.7 = s.1.7) /\ ((j.1.8 = s.1.8) /\ ((j.1.9 = s.1.9) /\ ((j.1.10 = if (0 : Int) > secS z3 then (0 : Int) else secS z3) /\ z1)))))))))))))))))))))))))))))) (∃ j : StRc,
  ((Inv j) /\ ((m j < m s) /\ ((0 = 0) /\ ((0 = 0) /\ ((0 = 0) /\ ((List.length g.2 = List.length g.2) /\ (((↑j.2 : Int) = IntKind.wrap IntKind.i64 ((↑s.2 : Int) + (1 :
  Int))) /\ (z2 /\ ((Plain (gC enF g.1)) /\ ((false = false) /\ ((false = false) /\ ((false = false) /\ ((false = false) /\ ((false = false) /\ ((false = false) /\ (((0 :
  Int) = (0 : Int)) /\ (((0 : Int) = (0 : Int)) /\ (((0 : Int) = (0 : Int)) /\ (((0 : Int) = (0 : Int)) /\ ((j.1.1 = s.1.1) /\ ((j.1.2 = s.1.2) /\ ((j.1.3 = s.1.3) /\
  ((j.1.4 = s.1.4) /\ ((j.1.5 = s.1.5) /\ ((j.1.6 = s.1.6) /\ ((j.1.7 = s.1.7) /\ ((j.1.8 = s.1.8) /\ ((j.1.9 = s.1.9) /\ ((j.1.10 = if z7 < s.1.10 then if (0 : Int) > secS
  z3 then (0 : Int) else secS z3 else s.1.10) /\ z1))))))))))))))))))))))))))))))) (br z13 (br z5 (z6 /\ (br z19 (br (decide (s.1.9 < (0 : Int))) (∃ j : StRc, ((Inv j) /\
  ((m j < m s) /\ ((0 = 0) /\ ((0 = 0) /\ ((0 = 0) /\ ((List.length g.2 = List.length g.2) /\ (((↑j.2 : Int) = IntKind.wrap IntKind.i64 ((↑s.2 : Int) + (1 : Int))) /\ (z2 /\
  ((Plain (gC enF g.1)) /\ ((false = false) /\ ((false = false) /\ ((false = false) /\ ((false = false) /\ ((false = false) /\ ((false = false) /\ (((0 : Int) = (0 : Int))
  /\ (((0 : Int) = (0 : Int)) /\ (((0 : Int) = (0 : Int)) /\ (((0 : Int) = (0 : Int)) /\ ((j.1.1 = s.1.1) /\ ((j.1.2 = s.1.2) /\ ((j.1.3 = s.1.3) /\ ((j.1.4 = s.1.4) /\
  ((j.1.5 = s.1.5) /\ ((j.1.6 = s.1.6) /\ ((j.1.7 = s.1.7) /\ ((j.1.8 = s.1.8) /\ ((j.1.9 = (2147483647 : Int)) /\ ((j.1.10 = s.1.10) /\ z1)))))))))))))))))))))))))))))) (∃
  j : StRc, ((Inv j) /\ ((m j < m s) /\ ((0 = 0) /\ ((0 = 0) /\ ((0 = 0) /\ ((List.length g.2 = List.length g.2) /\ (((↑j.2 : Int) = IntKind.wrap IntKind.i64 ((↑s.2 : Int) +
  (1 : Int))) /\ (z2 /\ ((Plain (gC enF g.1)) /\ ((false = false) /\ ((false = false) /\ ((false = false) /\ ((false = false) /\ ((false = false) /\ ((false = false) /\ (((0
  : Int) = (0 : Int)) /\ (((0 : Int) = (0 : Int)) /\ (((0 : Int) = (0 : Int)) /\ (((0 : Int) = (0 : Int)) /\ ((j.1.1 = s.1.1) /\ ((j.1.2 = s.1.2) /\ ((j.1.3 = s.1.3) /\
  ((j.1.4 = s.1.4) /\ ((j.1.5 = s.1.5) /\ ((j.1.6 = s.1.6) /\ ((j.1.7 = s.1.7) /\ ((j.1.8 = s.1.8) /\ ((j.1.9 = if (2147483647 : Int) < s.1.9 then (2147483647 : Int) else
  s.1.9) /\ ((j.1.10 = s.1.10) /\ z1))))))))))))))))))))))))))))))) (br (decide (s.1.9 < (0 : Int))) (∃ j : StRc, ((Inv j) /\ ((m j < m s) /\ ((0 = 0) /\ ((0 = 0) /\ ((0 =
  0) /\ ((List.length g.2 = List.length g.2) /\ (((↑j.2 : Int) = IntKind.wrap IntKind.i64 ((↑s.2 : Int) + (1 : Int))) /\ (z2 /\ ((Plain (gC enF g.1)) /\ ((false = false) /\
  ((false = false) /\ ((false = false) /\ ((false = false) /\ ((false = false) /\ ((false = false) /\ (((0 : Int) = (0 : Int)) /\ (((0 : Int) = (0 : Int)) /\ (((0 : Int) =
  (0 : Int)) /\ (((0 : Int) = (0 : Int)) /\ ((j.1.1 = s.1.1) /\ ((j.1.2 = s.1.2) /\ ((j.1.3 = s.1.3) /\ ((j.1.4 = s.1.4) /\ ((j.1.5 = s.1.5) /\ ((j.1.6 = s.1.6) /\ ((j.1.7 =
  s.1.7) /\ ((j.1.8 = s.1.8) /\ ((j.1.9 = if (0 : Int) > secS z3 then (0 : Int) else secS z3) /\ ((j.1.10 = s.1.10) /\ z1)))))))))))))))))))))))))))))) (∃ j : StRc, ((Inv j)
  /\ ((m j < m s) /\ ((0 = 0) /\ ((0 = 0) /\ ((0 = 0) /\ ((List.length g.2 = List.length g.2) /\ (((↑j.2 : Int) = IntKind.wrap IntKind.i64 ((↑s.2 : Int) + (1 : Int))) /\ (z2
  /\ ((Plain (gC enF g.1)) /\ ((false = false) /\ ((false = false) /\ ((false = false) /\ ((false = false) /\ ((false = false) /\ ((false = false) /\ (((0 : Int) = (0 :
  Int)) /\ (((0 : Int) = (0 : Int)) /\ (((0 : Int) = (0 : Int)) /\ (((0 : Int) = (0 : Int)) /\ ((j.1.1 = s.1.1) /\ ((j.1.2 = s.1.2) /\ ((j.1.3 = s.1.3) /\ ((j.1.4 = s.1.4)
  /\ ((j.1.5 = s.1.5) /\ ((j.1.6 = s.1.6) /\ ((j.1.7 = s.1.7) /\ ((j.1.8 = s.1.8) /\ ((j.1.9 = if z7 < s.1.9 then if (0 : Int) > secS z3 then (0 : Int) else secS z3 else
  s.1.9) /\ ((j.1.10 = s.1.10) /\ z1))))))))))))))))))))))))))))))))) False) (∃ j : StRc, ((Inv j) /\ ((m j < m s) /\ ((0 = 0) /\ ((0 = 0) /\ ((0 = 0) /\ ((List.length g.2 =
  List.length g.2) /\ (((↑j.2 : Int) = IntKind.wrap IntKind.i64 ((↑s.2 : Int) + (1 : Int))) /\ (z2 /\ ((Plain (gC enF g.1)) /\ ((false = false) /\ ((false = false) /\
  ((false = false) /\ ((false = false) /\ ((false = false) /\ ((false = false) /\ (((0 : Int) = (0 : Int)) /\ (((0 : Int) = (0 : Int)) /\ (((0 : Int) = (0 : Int)) /\ (((0 :
  Int) = (0 : Int)) /\ ((j.1.1 = s.1.1) /\ ((j.1.2 = s.1.2) /\ ((j.1.3 = s.1.3) /\ ((j.1.4 = s.1.4) /\ ((j.1.5 = s.1.5) /\ ((j.1.6 = s.1.6) /\ ((j.1.7 = s.1.7) /\ ((j.1.8 =
  s.1.8) /\ ((j.1.9 = s.1.9) /\ ((j.1.10 = s.1.10) /\ z1)))))))))))))))))))))))))))))))))))))))))) False))) False) (br z5 (z9 /\ (br z14 (∃ j : StRc, ((Inv j) /\ ((m j < m
  s) /\ ((0 = 0) /\ ((0 = 0) /\ ((0 = 0) /\ ((List.length g.2 = List.length g.2) /\ (((↑j.2 : Int) = IntKind.wrap IntKind.i64 ((↑s.2 : Int) + (1 : Int))) /\ (z2 /\ ((Plain
  (gC enF g.1)) /\ ((false = false) /\ ((false = false) /\ ((false = false) /\ ((false = false) /\ ((false = false) /\ ((false = false) /\ (((0 : Int) = (0 : Int)) /\ (((0 :
  Int) = (0 : Int)) /\ (((0 : Int) = (0 : Int)) /\ (((0 : Int) = (0 : Int)) /\ ((j.1.1 = true) /\ ((j.1.2 = s.1.2) /\ ((j.1.3 = s.1.3) /\ ((j.1.4 = s.1.4) /\ ((j.1.5 =
  s.1.5) /\ ((j.1.6 = s.1.6) /\ ((j.1.7 = s.1.7) /\ ((j.1.8 = s.1.8) /\ ((j.1.9 = s.1.9) /\ ((j.1.10 = s.1.10) /\ z1)))))))))))))))))))))))))))))) (br z16 (∃ j : StRc, ((Inv
  j) /\ ((m j < m s) /\ ((0 = 0) /\ ((0 = 0) /\ ((0 = 0) /\ ((List.length g.2 = List.length g.2) /\ (((↑j.2 : Int) = IntKind.wrap IntKind.i64 ((↑s.2 : Int) + (1 : Int))) /\
  (z2 /\ ((Plain (gC enF g.1)) /\ ((false = false) /\ ((false = false) /\ ((false = false) /\ ((false = false) /\ ((false = false) /\ ((false = false) /\ (((0 : Int) = (0 :
  Int)) /\ (((0 : Int) = (0 : Int)) /\ (((0 : Int) = (0 : Int)) /\ (((0 : Int) = (0 : Int)) /\ ((j.1.1 = s.1.1) /\ ((j.1.2 = true) /\ ((j.1.3 = s.1.3) /\ ((j.1.4 = s.1.4) /\
  ((j.1.5 = s.1.5) /\ ((j.1.6 = s.1.6) /\ ((j.1.7 = s.1.7) /\ ((j.1.8 = s.1.8) /\ ((j.1.9 = s.1.9) /\ ((j.1.10 = s.1.10) /\ z1)))))))))))))))))))))))))))))) (br z17 (∃ j :
  StRc, ((Inv j) /\ ((m j < m s) /\ ((0 = 0) /\ ((0 = 0) /\ ((0 = 0) /\ ((List.length g.2 = List.length g.2) /\ (((↑j.2 : Int) = IntKind.wrap IntKind.i64 ((↑s.2 : Int) + (1
  : Int))) /\ (z2 /\ ((Plain (gC enF g.1)) /\ ((false = false) /\ ((false = false) /\ ((false = false) /\ ((false = false) /\ ((false = false) /\ ((false = false) /\ (((0 :
  Int) = (0 : Int)) /\ (((0 : Int) = (0 : Int)) /\ (((0 : Int) = (0 : Int)) /\ (((0 : Int) = (0 : Int)) /\ ((j.1.1 = s.1.1) /\ ((j.1.2 = s.1.2) /\ ((j.1.3 = true) /\ ((j.1.4
  = s.1.4) /\ ((j.1.5 = s.1.5) /\ ((j.1.6 = s.1.6) /\ ((j.1.7 = s.1.7) /\ ((j.1.8 = s.1.8) /\ ((j.1.9 = s.1.9) /\ ((j.1.10 = s.1.10) /\ z1)))))))))))))))))))))))))))))) (br
  z20 (∃ j : StRc, ((Inv j) /\ ((m j < m s) /\ ((0 = 0) /\ ((0 = 0) /\ ((0 = 0) /\ ((List.length g.2 = List.length g.2) /\ (((↑j.2 : Int) = IntKind.wrap IntKind.i64 ((↑s.2 :
  Int) + (1 : Int))) /\ (z2 /\ ((Plain (gC enF g.1)) /\ ((false = false) /\ ((false = false) /\ ((false = false) /\ ((false = false) /\ ((false = false) /\ ((false = false)
  /\ (((0 : Int) = (0 : Int)) /\ (((0 : Int) = (0 : Int)) /\ (((0 : Int) = (0 : Int)) /\ (((0 : Int) = (0 : Int)) /\ ((j.1.1 = s.1.1) /\ ((j.1.2 = s.1.2) /\ ((j.1.3 = s.1.3)
  /\ ((j.1.4 = true) /\ ((j.1.5 = s.1.5) /\ ((j.1.6 = s.1.6) /\ ((j.1.7 = s.1.7) /\ ((j.1.8 = s.1.8) /\ ((j.1.9 = s.1.9) /\ ((j.1.10 = s.1.10) /\
  z1)))))))))))))))))))))))))))))) (br z10 (∃ j : StRc, ((Inv j) /\ ((m j < m s) /\ ((0 = 0) /\ ((0 = 0) /\ ((0 = 0) /\ ((List.length g.2 = List.length g.2) /\ (((↑j.2 :
  Int) = IntKind.wrap IntKind.i64 ((↑s.2 : Int) + (1 : Int))) /\ (z2 /\ ((Plain (gC enF g.1)) /\ ((false = false) /\ ((false = false) /\ ((false = false) /\ ((false = false)
  /\ ((false = false) /\ ((false = false) /\ (((0 : Int) = (0 : Int)) /\ (((0 : Int) = (0 : Int)) /\ (((0 : Int) = (0 : Int)) /\ (((0 : Int) = (0 : Int)) /\ ((j.1.1 = s.1.1)
  /\ ((j.1.2 = s.1.2) /\ ((j.1.3 = s.1.3) /\ ((j.1.4 = s.1.4) /\ ((j.1.5 = true) /\ ((j.1.6 = s.1.6) /\ ((j.1.7 = s.1.7) /\ ((j.1.8 = s.1.8) /\ ((j.1.9 = s.1.9) /\ ((j.1.10
  = s.1.10) /\ z1)))))))))))))))))))))))))))))) (br z8 (∃ j : StRc, ((Inv j) /\ ((m j < m s) /\ ((0 = 0) /\ ((0 = 0) /\ ((0 = 0) /\ ((List.length g.2 = List.length g.2) /\
  (((↑j.2 : Int) = IntKind.wrap IntKind.i64 ((↑s.2 : Int) + (1 : Int))) /\ (z2 /\ ((Plain (gC enF g.1)) /\ ((false = false) /\ ((false = false) /\ ((false = false) /\
  ((false = false) /\ ((false = false) /\ ((false = false) /\ (((0 : Int) = (0 : Int)) /\ (((0 : Int) = (0 : Int)) /\ (((0 : Int) = (0 : Int)) /\ (((0 : Int) = (0 : Int)) /\
  ((j.1.1 = s.1.1) /\ ((j.1.2 = s.1.2) /\ ((j.1.3 = s.1.3) /\ ((j.1.4 = s.1.4) /\ ((j.1.5 = true) /\ ((j.1.6 = s.1.6) /\ ((j.1.7 = s.1.7) /\ ((j.1.8 = s.1.8) /\ ((j.1.9 =
  s.1.9) /\ ((j.1.10 = s.1.10) /\ z1)))))))))))))))))))))))))))))) (br z11 (∃ j : StRc, ((Inv j) /\ ((m j < m s) /\ ((0 = 0) /\ ((0 = 0) /\ ((0 = 0) /\ ((List.length g.2 =
  List.length g.2) /\ (((↑j.2 : Int) = IntKind.wrap IntKind.i64 ((↑s.2 : Int) + (1 : Int))) /\ (z2 /\ ((Plain (gC enF g.1)) /\ ((false = false) /\ ((false = false) /\
  ((false = false) /\ ((false = false) /\ ((false = false) /\ ((false = false) /\ (((0 : Int) = (0 : Int)) /\ (((0 : Int) = (0 : Int)) /\ (((0 : Int) = (0 : Int)) /\ (((0 :
  Int) = (0 : Int)) /\ ((j.1.1 = s.1.1) /\ ((j.1.2 = s.1.2) /\ ((j.1.3 = s.1.3) /\ ((j.1.4 = s.1.4) /\ ((j.1.5 = s.1.5) /\ ((j.1.6 = true) /\ ((j.1.7 = s.1.7) /\ ((j.1.8 =
  s.1.8) /\ ((j.1.9 = s.1.9) /\ ((j.1.10 = s.1.10) /\ z1)))))))))))))))))))))))))))))) (br z18 (br (decide (s.1.7 < (0 : Int))) (∃ j : StRc, ((Inv j) /\ ((m j < m s) /\ ((0
  = 0) /\ ((0 = 0) /\ ((0 = 0) /\ ((List.length g.2 = List.length g.2) /\ (((↑j.2 : Int) = IntKind.wrap IntKind.i64 ((↑s.2 : Int) + (1 : Int))) /\ (z2 /\ ((Plain (gC enF
  g.1)) /\ ((false = false) /\ ((false = false) /\ ((false = false) /\ ((false = false) /\ ((false = false) /\ ((false = false) /\ (((0 : Int) = (0 : Int)) /\ (((0 : Int) =
  (0 : Int)) /\ (((0 : Int) = (0 : Int)) /\ (((0 : Int) = (0 : Int)) /\ ((j.1.1 = s.1.1) /\ ((j.1.2 = s.1.2) /\ ((j.1.3 = s.1.3) /\ ((j.1.4 = s.1.4) /\ ((j.1.5 = s.1.5) /\
  ((j.1.6 = s.1.6) /\ ((j.1.7 = (0 : Int)) /\ ((j.1.8 = s.1.8) /\ ((j.1.9 = s.1.9) /\ ((j.1.10 = s.1.10) /\ z1)))))))))))))))))))))))))))))) (∃ j : StRc, ((Inv j) /\ ((m j <
  m s) /\ ((0 = 0) /\ ((0 = 0) /\ ((0 = 0) /\ ((List.length g.2 = List.length g.2) /\ (((↑j.2 : Int) = IntKind.wrap IntKind.i64 ((↑s.2 : Int) + (1 : Int))) /\ (z2 /\ ((Plain
  (gC enF g.1)) /\ ((false = false) /\ ((false = false) /\ ((false = false) /\ ((false = false) /\ ((false = false) /\ ((false = false) /\ (((0 : Int) = (0 : Int)) /\ (((0 :
  Int) = (0 : Int)) /\ (((0 : Int) = (0 : Int)) /\ (((0 : Int) = (0 : Int)) /\ ((j.1.1 = s.1.1) /\ ((j.1.2 = s.1.2) /\ ((j.1.3 = s.1.3) /\ ((j.1.4 = s.1.4) /\ ((j.1.5 =
  s.1.5) /\ ((j.1.6 = s.1.6) /\ ((j.1.7 = if (0 : Int) < s.1.7 then (0 : Int) else s.1.7) /\ ((j.1.8 = s.1.8) /\ ((j.1.9 = s.1.9) /\ ((j.1.10 = s.1.10) /\
  z1))))))))))))))))))))))))))))))) (br z15 (br (decide (s.1.8 < (0 : Int))) (∃ j : StRc, ((Inv j) /\ ((m j < m s) /\ ((0 = 0) /\ ((0 = 0) /\ ((0 = 0) /\ ((List.length g.2 =
  List.length g.2) /\ (((↑j.2 : Int) = IntKind.wrap IntKind.i64 ((↑s.2 : Int) + (1 : Int))) /\ (z2 /\ ((Plain (gC enF g.1)) /\ ((false = false) /\ ((false = false) /\
  ((false = false) /\ ((false = false) /\ ((false = false) /\ ((false = false) /\ (((0 : Int) = (0 : Int)) /\ (((0 : Int) = (0 : Int)) /\ (((0 : Int) = (0 : Int)) /\ (((0 :
  Int) = (0 : Int)) /\ ((j.1.1 = s.1.1) /\ ((j.1.2 = s.1.2) /\ ((j.1.3 = s.1.3) /\ ((j.1.4 = s.1.4) /\ ((j.1.5 = s.1.5) /\ ((j.1.6 = s.1.6) /\ ((j.1.7 = s.1.7) /\ ((j.1.8 =
  (0 : Int)) /\ ((j.1.9 = s.1.9) /\ ((j.1.10 = s.1.10) /\ z1)))))))))))))))))))))))))))))) (∃ j : StRc, ((Inv j) /\ ((m j < m s) /\ ((0 = 0) /\ ((0 = 0) /\ ((0 = 0) /\
  ((List.length g.2 = List.length g.2) /\ (((↑j.2 : Int) = IntKind.wrap IntKind.i64 ((↑s.2 : Int) + (1 : Int))) /\ (z2 /\ ((Plain (gC enF g.1)) /\ ((false = false) /\
  ((false = false) /\ ((false = false) /\ ((false = false) /\ ((false = false) /\ ((false = false) /\ (((0 : Int) = (0 : Int)) /\ (((0 : Int) = (0 : Int)) /\ (((0 : Int) =
  (0 : Int)) /\ (((0 : Int) = (0 : Int)) /\ ((j.1.1 = s.1.1) /\ ((j.1.2 = s.1.2) /\ ((j.1.3 = s.1.3) /\ ((j.1.4 = s.1.4) /\ ((j.1.5 = s.1.5) /\ ((j.1.6 = s.1.6) /\ ((j.1.7 =
  s.1.7) /\ ((j.1.8 = if (0 : Int) < s.1.8 then (0 : Int) else s.1.8) /\ ((j.1.9 = s.1.9) /\ ((j.1.10 = s.1.10) /\ z1))))))))))))))))))))))))))))))) (br z12 (br (decide
  (s.1.10 < (0 : Int))) (∃ j : StRc, ((Inv j) /\ ((m j < m s) /\ ((0 = 0) /\ ((0 = 0) /\ ((0 = 0) /\ ((List.length g.2 = List.length g.2) /\ (((↑j.2 : Int) = IntKind.wrap
  IntKind.i64 ((↑s.2 : Int) + (1 : Int))) /\ (z2 /\ ((Plain (gC enF g.1)) /\ ((false = false) /\ ((false = false) /\ ((false = false) /\ ((false = false) /\ ((false = false)
  /\ ((false = false) /\ (((0 : Int) = (0 : Int)) /\ (((0 : Int) = (0 : Int)) /\ (((0 : Int) = (0 : Int)) /\ (((0 : Int) = (0 : Int)) /\ ((j.1.1 = s.1.1) /\ ((j.1.2 = s.1.2)
  /\ ((j.1.3 = s.1.3) /\ ((j.1.4 = s.1.4) /\ ((j.1.5 = s.1.5) /\ ((j.1.6 = s.1.6) /\ ((j.1.7 = s.1.7) /\ ((j.1.8 = s.1.8) /\ ((j.1.9 = s.1.9) /\ ((j.1.10 = (0 : Int)) /\
  z1)))))))))))))))))))))))))))))) (∃ j : StRc, ((Inv j) /\ ((m j < m s) /\ ((0 = 0) /\ ((0 = 0) /\ ((0 = 0) /\ ((List.length g.2 = List.length g.2) /\ (((↑j.2 : Int) =
  IntKind.wrap IntKind.i64 ((↑s.2 : Int) + (1 : Int))) /\ (z2 /\ ((Plain (gC enF g.1)) /\ ((false = false) /\ ((false = false) /\ ((false = false) /\ ((false = false) /\
  ((false = false) /\ ((false = false) /\ (((0 : Int) = (0 : Int)) /\ (((0 : Int) = (0 : Int)) /\ (((0 : Int) = (0 : Int)) /\ (((0 : Int) = (0 : Int)) /\ ((j.1.1 = s.1.1) /\
  ((j.1.2 = s.1.2) /\ ((j.1.3 = s.1.3) /\ ((j.1.4 = s.1.4) /\ ((j.1.5 = s.1.5) /\ ((j.1.6 = s.1.6) /\ ((j.1.7 = s.1.7) /\ ((j.1.8 = s.1.8) /\ ((j.1.9 = s.1.9) /\ ((j.1.10 =
  if (0 : Int) < s.1.10 then (0 : Int) else s.1.10) /\ z1))))))))))))))))))))))))))))))) (br z13 (br z5 (z6 /\ (br z19 (br (decide (s.1.9 < (0 : Int))) (∃ j : StRc, ((Inv j)
  /\ ((m j < m s) /\ ((0 = 0) /\ ((0 = 0) /\ ((0 = 0) /\ ((List.length g.2 = List.length g.2) /\ (((↑j.2 : Int) = IntKind.wrap IntKind.i64 ((↑s.2 : Int) + (1 : Int))) /\ (z2
  /\ ((Plain (gC enF g.1)) /\ ((false = false) /\ ((false = false) /\ ((false = false) /\ ((false = false) /\ ((false = false) /\ ((false = false) /\ (((0 : Int) = (0 :
  Int)) /\ (((0 : Int) = (0 : Int)) /\ (((0 : Int) = (0 : Int)) /\ (((0 : Int) = (0 : Int)) /\ ((j.1.1 = s.1.1) /\ ((j.1.2 = s.1.2) /\ ((j.1.3 = s.1.3) /\ ((j.1.4 = s.1.4)
  /\ ((j.1.5 = s.1.5) /\ ((j.1.6 = s.1.6) /\ ((j.1.7 = s.1.7) /\ ((j.1.8 = s.1.8) /\ ((j.1.9 = (2147483647 : Int)) /\ ((j.1.10 = s.1.10) /\ z1))))))))))))))))))))))))))))))
  (∃ j : StRc, ((Inv j) /\ ((m j < m s) /\ ((0 = 0) /\ ((0 = 0) /\ ((0 = 0) /\ ((List.length g.2 = List.length g.2) /\ (((↑j.2 : Int) = IntKind.wrap IntKind.i64 ((↑s.2 :
  Int) + (1 : Int))) /\ (z2 /\ ((Plain (gC enF g.1)) /\ ((false = false) /\ ((false = false) /\ ((false = false) /\ ((false = false) /\ ((false = false) /\ ((false = false)
  /\ (((0 : Int) = (0 : Int)) /\ (((0 : Int) = (0 : Int)) /\ (((0 : Int) = (0 : Int)) /\ (((0 : Int) = (0 : Int)) /\ ((j.1.1 = s.1.1) /\ ((j.1.2 = s.1.2) /\ ((j.1.3 = s.1.3)
  /\ ((j.1.4 = s.1.4) /\ ((j.1.5 = s.1.5) /\ ((j.1.6 = s.1.6) /\ ((j.1.7 = s.1.7) /\ ((j.1.8 = s.1.8) /\ ((j.1.9 = if (2147483647 : Int) < s.1.9 then (2147483647 : Int) else
  s.1.9) /\ ((j.1.10 = s.1.10) /\ z1))))))))))))))))))))))))))))))) (br (decide (s.1.9 < (0 : Int))) (∃ j : StRc, ((Inv j) /\ ((m j < m s) /\ ((0 = 0) /\ ((0 = 0) /\ ((0 =
  0) /\ ((List.length g.2 = List.length g.2) /\ (((↑j.2 : Int) = IntKind.wrap IntKind.i64 ((↑s.2 : Int) + (1 : Int))) /\ (z2 /\ ((Plain (gC enF g.1)) /\ ((false = false) /\
  ((false = false) /\ ((false = false) /\ ((false = false) /\ ((false = false) /\ ((false = false) /\ (((0 : Int) = (0 : Int)) /\ (((0 : Int) = (0 : Int)) /\ (((0 : Int) =
  (0 : Int)) /\ (((0 : Int) = (0 : Int)) /\ ((j.1.1 = s.1.1) /\ ((j.1.2 = s.1.2) /\ ((j.1.3 = s.1.3) /\ ((j.1.4 = s.1.4) /\ ((j.1.5 = s.1.5) /\ ((j.1.6 = s.1.6) /\ ((j.1.7 =
  s.1.7) /\ ((j.1.8 = s.1.8) /\ ((j.1.9 = (0 : Int)) /\ ((j.1.10 = s.1.10) /\ z1)))))))))))))))))))))))))))))) (∃ j : StRc, ((Inv j) /\ ((m j < m s) /\ ((0 = 0) /\ ((0 = 0)
  /\ ((0 = 0) /\ ((List.length g.2 = List.length g.2) /\ (((↑j.2 : Int) = IntKind.wrap IntKind.i64 ((↑s.2 : Int) + (1 : Int))) /\ (z2 /\ ((Plain (gC enF g.1)) /\ ((false =
  false) /\ ((false = false) /\ ((false = false) /\ ((false = false) /\ ((false = false) /\ ((false = false) /\ (((0 : Int) = (0 : Int)) /\ (((0 : Int) = (0 : Int)) /\ (((0
  : Int) = (0 : Int)) /\ (((0 : Int) = (0 : Int)) /\ ((j.1.1 = s.1.1) /\ ((j.1.2 = s.1.2) /\ ((j.1.3 = s.1.3) /\ ((j.1.4 = s.1.4) /\ ((j.1.5 = s.1.5) /\ ((j.1.6 = s.1.6) /\
  ((j.1.7 = s.1.7) /\ ((j.1.8 = s.1.8) /\ ((j.1.9 = if (0 : Int) < s.1.9 then (0 : Int) else s.1.9) /\ ((j.1.10 = s.1.10) /\ z1))))))))))))))))))))))))))))))))) False) (∃ j
  : StRc, ((Inv j) /\ ((m j < m s) /\ ((0 = 0) /\ ((0 = 0) /\ ((0 = 0) /\ ((List.length g.2 = List.length g.2) /\ (((↑j.2 : Int) = IntKind.wrap IntKind.i64 ((↑s.2 : Int) +
  (1 : Int))) /\ (z2 /\ ((Plain (gC enF g.1)) /\ ((false = false) /\ ((false = false) /\ ((false = false) /\ ((false = false) /\ ((false = false) /\ ((false = false) /\ (((0
  : Int) = (0 : Int)) /\ (((0 : Int) = (0 : Int)) /\ (((0 : Int) = (0 : Int)) /\ (((0 : Int) = (0 : Int)) /\ ((j.1.1 = s.1.1) /\ ((j.1.2 = s.1.2) /\ ((j.1.3 = s.1.3) /\
  ((j.1.4 = s.1.4) /\ ((j.1.5 = s.1.5) /\ ((j.1.6 = s.1.6) /\ ((j.1.7 = s.1.7) /\ ((j.1.8 = s.1.8) /\ ((j.1.9 = s.1.9) /\ ((j.1.10 = s.1.10) /\
  z1)))))))))))))))))))))))))))))))))))))))))) False))) False) (∃ y : Unit, ((True) /\ ((0 = 0) /\ ((0 = 0) /\ (z2 /\ ((Plain (gC enF g.1)) /\ ((false = false) /\ ((false =
  false) /\ ((false = false) /\ ((false = false) /\ ((false = false) /\ ((false = false) /\ (((0 : Int) = (0 : Int)) /\ (((0 : Int) = (0 : Int)) /\ (((0 : Int) = (0 : Int))
  /\ (((0 : Int) = (0 : Int)) /\ (((ctlP g.2).1 = s.1.1) /\ (((ctlP g.2).2 = s.1.2) /\ (((ctlP g.2).3 = s.1.3) /\ (((ctlP g.2).4 = s.1.4) /\ (((ctlP g.2).5 = s.1.5) /\
  (((ctlP g.2).6 = s.1.6) /\ (((ctlP g.2).7 = s.1.7) /\ (((ctlP g.2).8 = s.1.8) /\ (((ctlP g.2).9 = s.1.9) /\ (((ctlP g.2).10 = s.1.10) /\ True))))))))))))))))))))))))))) := by kernel_rfl
theorem Rc_vc (l : List Fl) (c : Ct) : mcall ERc mRc 60 13 [.slice (some ⟨0, 0, none⟩) l.length 2] ⟨mkR (nums 0 [gRo enF l]), 1⟩ (retIs 1 (ctV c) [gRo enF l]) =
  let z1 := (Row.mk (List.take (List.length l * 2) (List.drop 0 (gC enF l))) true (Ob.cells true)); let z2 := (ByteArray.mk #[99, 97, 99, 104, 101, 45, 99, 111, 110, 116,
  114, 111, 108]); (((((0 + List.length l * 2 <= List.length (gC enF l) /\ Plain (List.take (List.length l * 2) (List.drop 0 (gC enF l)))) /\ (True /\ True)) /\ ((Plain (prC
  z1 z2) /\ True) /\ (IsF z1 (List.length l) /\ (List.length l <= 9223372036854775807 /\ alB z1 z2 <= 16777000))))) /\ (∃ g : GRc, ((List.length g.2 <= 9223372036854775807
  /\ ∀ (p : Pr), p ∈ GRc.ps g → List.length (Pr.v p) <= maxLen) /\ ((0 = 0) /\ ((0 = 0) /\ ((0 = 0) /\ ((List.length g.2 = prN z1 z2) /\ (((0 : Int) = (0 : Int)) /\ ((Eq (α
  := List Value) (gC enF g.1) (gC enF l)) /\ ((Plain (gC enF g.1)) /\ ((false = false) /\ ((false = false) /\ ((false = false) /\ ((false = false) /\ ((false = false) /\
  ((false = false) /\ (((0 : Int) = (0 : Int)) /\ (((0 : Int) = (0 : Int)) /\ (((0 : Int) = (0 : Int)) /\ (((0 : Int) = (0 : Int)) /\ ((false = false) /\ ((false = false) /\
  ((false = false) /\ ((false = false) /\ ((false = false) /\ ((false = false) /\ (((-1 : Int) = (-1 : Int)) /\ (((-1 : Int) = (-1 : Int)) /\ (((-1 : Int) = (-1 : Int)) /\
  (((-1 : Int) = (-1 : Int)) /\ ((Eq (α := List Value) (gC enP g.2) (prC z1 z2)) /\ ((Plain (gC enP g.2)) /\ (∀ (y : Unit), ((True) → ((c.1 = (ctlP g.2).1) /\ ((c.2 = (ctlP
  g.2).2) /\ ((c.3 = (ctlP g.2).3) /\ ((c.4 = (ctlP g.2).4) /\ ((c.5 = (ctlP g.2).5) /\ ((c.6 = (ctlP g.2).6) /\ ((c.7 = (ctlP g.2).7) /\ ((c.8 = (ctlP g.2).8) /\ ((c.9 =
  (ctlP g.2).9) /\ ((c.10 = (ctlP g.2).10) /\ ((Eq (α := List Value) (gC enF l) (gC enF g.1)) /\ ((Plain (gC enF l)) /\ True)))))))))))))))))))))))))))))))))))))))))))))) := by kernel_rfl
theorem cRc_ok : ∀ f a rows p v news, cRc f a rows = some (p, v, news) → p → Con Try.prog f a rows v (rows ++ news) := by
  intro f a rows p v news h hp
  unfold cRc at h
  split at h <;> simp only [Option.some.injEq, Prod.mk.injEq, reduceCtorEq] at h <;> obtain ⟨rfl, rfl, rfl⟩ := h
  · obtain ⟨⟨l, rfl, rfl⟩, h1, h2⟩ := hp
    have e : decF (gRo enF l).cells = l := decF_gC l
    simp only [prN, prC, prL, alB, e] at h2 ⊢
    exact Rp_con l (L _) h1 h2
  · exact Rn_con (L _) hp
theorem stepC_ok (c : Ct) (p : Pr) (h : okC c) : okC (stepC c p) := by
  obtain ⟨a, b, c', d, e, f, ma, sh, st, fr⟩ := c
  obtain ⟨h1, h2, h3, h4⟩ := h
  have h5 := secL_bd p.v
  unfold stepC numC flagC okC smal numN
  simp only at *
  grind
theorem Rc_piece : PieceOk ERc 1 (13, pRc, specRc) := by
  refine piece_loop mixed (calls_envC cRc_ok) (lok_envC _ _ _) lm_none (n := 60) (by kernel_rfl) (fun _ : GRc => (⟨c0, 0⟩ : StRc)) (fun g s => s.i ≤ g.ps.length ∧ (g.ps.drop s.i).foldl stepC s.c = ctlP g.ps ∧ okC s.c) (fun g s => g.ps.length - s.i) (sl := slRc) (rl := rlRc) (fun g hg => ⟨Nat.zero_le _, rfl, by unfold okC c0; simp⟩) (fun g s hg hi => ?_)
  refine (Rc_round g s _ _).mpr ?_
  obtain ⟨l, ps⟩ := g
  obtain ⟨c, i⟩ := s
  obtain ⟨h1, h3, h4⟩ := hi
  obtain ⟨g1, g2⟩ := hg
  have hm : maxLen = 9223372036854775807 := by unfold maxLen; rfl
  simp only at h1 h3 g1 g2 h4
  simp only [ofNat_eq, toNat_cast, Nat.zero_add, Nat.add_zero, Nat.mul_one, List.drop_zero, bCells_len, bCells_drop, bCells_take, bCells_app, bCells_one, bCells_plain, List.length_replicate, List.length_append, List.length_take, List.length_drop, List.take_length, and_true, true_and, and_self, decide_true, List.length_nil, List.length_cons, Nat.sub_zero, dB_mk, dB_ro, List.take_zero, fPl, pPl]
  refine br_if (fun h => br_dec (by omega) ?_) (fun h => ?_)
  rotate_left
  · have hz : ps.drop i = [] := List.drop_eq_nil_of_le (by omega)
    rw [hz, List.foldl_nil] at h3
    subst h3
    refine ⟨(), ?_⟩
    simp
  have hi : i < ps.length := by omega
  obtain ⟨d1, d2, d3, d4, d5, d6⟩ := pGet ps i hi
  have hd := List.drop_eq_getElem_cons hi
  rw [hd, List.foldl_cons] at h3
  have w := i64_succ (show i < 9223372036854775807 by omega)
  simp only [d1, d2, d3, d4, d5, d6, true_and, w, mk_bs, strEq_bs, bs_len]
  have hv : ps[i].v.length ≤ 9223372036854775807 := by have := g2 _ (List.getElem_mem hi); omega
  obtain ⟨p, hp⟩ : ∃ p, p = ps[i] := ⟨_, rfl⟩
  rw [← hp] at h3 hv ⊢
  have hsec : secS (bs p.v) = secL p.v := rfl
  have hok := stepC_ok c p h4
  have hnum := secL_bd p.v
  rw [hsec]
  have idx : (0 : Int) ≤ (i : Int) ∧ (i : Int) < (ps.length : Int) := by omega
  simp only [idx, and_self, decide_true]
  clear d1 d2 d3 d4 d5 d6 hd hp
  obtain ⟨n, v, hh⟩ := p
  obtain ⟨a1, a2, a3, a4, a5, a6, ma, sh, st, fr⟩ := c
  obtain ⟨o1, o2, o3, o4⟩ := h4
  simp only at hv hnum o1 o2 o3 o4 ⊢
  cases hh with
  | true =>
    refine br_b rfl (br_b rfl ⟨hv, br_b rfl ?_⟩)
    clear g1 g2 hm h h1 idx w hv
    repeat' refine br_intro (fun _ => ?_) (fun _ => ?_)
    all_goals first
      | (refine ⟨⟨stepC _ _, i + 1⟩, ⟨by simp only; omega, h3, hok⟩, by simp only; omega, rfl, ?_⟩
         clear h3 hok
         simp only [stepC, numC, flagC, numN, smal, sNoStore, sNoCache, sPrivate, sPublic, sOnly, sMust, sProxy, sMaxAge, sShared, sMinFresh, sMaxStale]
         simp_all
         done)
      | (refine ⟨⟨stepC _ _, i + 1⟩, ⟨by simp only; omega, h3, hok⟩, by simp only; omega, rfl, ?_⟩
         clear h3 hok
         simp only [stepC, numC, flagC, numN, smal, sNoStore, sNoCache, sPrivate, sPublic, sOnly, sMust, sProxy, sMaxAge, sShared, sMinFresh, sMaxStale]
         simp_all
         grind)
      | (exfalso; simp_all; done)
  | false =>
    refine br_nb rfl (br_b rfl ?_)
    clear g1 g2 hm h h1 idx w hv
    repeat' refine br_intro (fun _ => ?_) (fun _ => ?_)
    all_goals first
      | (refine ⟨⟨stepC _ _, i + 1⟩, ⟨by simp only; omega, h3, hok⟩, by simp only; omega, rfl, ?_⟩
         clear h3 hok
         simp only [stepC, numC, flagC, numN, smal, sNoStore, sNoCache, sPrivate, sPublic, sOnly, sMust, sProxy, sMaxAge, sShared, sMinFresh, sMaxStale]
         simp_all
         done)
      | (refine ⟨⟨stepC _ _, i + 1⟩, ⟨by simp only; omega, h3, hok⟩, by simp only; omega, rfl, ?_⟩
         clear h3 hok
         simp only [stepC, numC, flagC, numN, smal, sNoStore, sNoCache, sPrivate, sPublic, sOnly, sMust, sProxy, sMaxAge, sShared, sMinFresh, sMaxStale]
         simp_all
         grind)
      | (exfalso; simp_all; done)
theorem Rc_con (l : List Fl) (hl : l.length ≤ maxLen) (h : (allL l sCC).length ≤ 16777000) : Con Try.prog 13 [.slice (some ⟨0, 0, none⟩) l.length 2] [gRo enF l] (ctV (ctlL l)) [gRo enF l] := by
  refine con_vc (E := ERc) mixed (calls_envC cRc_ok) (lok_envC _ _ _) (M := mRc) (lm_one Rc_piece) (Rc_vc l _) ?_
  have hm : maxLen = 9223372036854775807 := by unfold maxLen; rfl
  have e1 : ∀ b o, prN ⟨gC enF l, b, o⟩ (bs sCC) = (pairsL l sCC).length := fun b o => by unfold prN prL; simp only; rw [decF_gC, L_bs]
  have e2 : ∀ b o, prC ⟨gC enF l, b, o⟩ (bs sCC) = gC enP (pairsL l sCC) := fun b o => by unfold prC prL; simp only; rw [decF_gC, L_bs]
  have e3 : ∀ b o, alB ⟨gC enF l, b, o⟩ (bs sCC) = (allL l sCC).length := fun b o => by unfold alB; simp only; rw [decF_gC, L_bs]
  have e4 : (⟨#[99, 97, 99, 104, 101, 45, 99, 111, 110, 116, 114, 111, 108]⟩ : ByteArray) = bs sCC := rfl
  simp only [ofNat_eq, toNat_cast, Nat.zero_add, Nat.add_zero, Nat.mul_one, List.drop_zero, bCells_len, bCells_drop, bCells_take, bCells_app, bCells_one, bCells_plain, List.length_replicate, List.length_append, List.length_take, List.length_drop, List.take_length, and_true, true_and, and_self, decide_true, List.length_nil, List.length_cons, Nat.sub_zero, dB_mk, dB_ro, List.take_zero, e4, fTake, fLen, fPl, pPl, e1, e2, e3]
  refine ⟨⟨Nat.le_refl _, isF_mk _ _ rfl, by omega, h⟩, ⟨l, pairsL l sCC⟩, ⟨?_, ?_⟩, ?_⟩
  · have := (pairs_len l sCC).1; simp only; omega
  · intro p hp; have := ((pairs_len l sCC).2 p hp).2; omega
  repeat (refine ⟨rfl, ?_⟩)
  refine fun _ _ => ?_
  repeat (first | rfl | refine ⟨rfl, ?_⟩)
end Go.Proofs.Ytajfdcijpchjdaa.tk
