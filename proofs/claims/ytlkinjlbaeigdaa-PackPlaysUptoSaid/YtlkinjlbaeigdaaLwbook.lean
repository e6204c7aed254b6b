/- Lists of rows held against each other, copied with room behind, held against their copies. -/
import Derived.Test.YtlkinjlbaeigdaaSz9
import Derived.Test.YtlkinjlbaeigdaaRows
import Derived.Test.YtlkinjlbaeigdaaLpkE
set_option maxRecDepth 20000
set_option linter.unusedSimpArgs false
set_option linter.unusedVariables false
namespace Go.Proofs.Ytlkinjlbaeigdaa.wb
open Go Go.Ev Go.Sy Go.RowKit Go.Proofs.Ytlkinjlbaeigdaa.gl Go.Proofs.Ytlkinjlbaeigdaa.tk Go.Proofs.Ytlkinjlbaeigdaa.hf Go.Proofs.Ytlkinjlbaeigdaa.s3 Go.Proofs.Ytlkinjlbaeigdaa.tb Go.Proofs.Ytlkinjlbaeigdaa.sh Go.Proofs.Ytlkinjlbaeigdaa.pk
def pSame : List Nat := [0, 1, 0, 1, 1]
structure GSame where
  a : List Wr
  b : List Wr
def slSame (g : GSame) (i : Nat) : List (Nat × Value) := [(0, .slice (some ⟨0, 0, none⟩) g.a.length 3), (1, .slice (some ⟨1, 0, none⟩) g.b.length 3), (5, .int .i64 (i : Nat))]
def rlSame (g : GSame) : List (Nat × Row) := [(0, gRo enW g.a), (1, gRo enW g.b)]
def wsSame (g : GSame) : List (Gate Unit) := [⟨.exit 0, fun _ => g.a = g.b, fun _ => [], fun _ => rlSame g, 2⟩, ⟨.ret, fun _ => g.a ≠ g.b, fun _ => [(4, .bool false)], fun _ => rlSame g, 2⟩]
def specSame : Sy.Spec := specOf 2 2 26 (fun g : GSame => g.a.length = g.b.length ∧ g.a.length ≤ maxLen) (fun g => slSame g 0) (fun g => rlSame g) wsSame
def mSame := mOf [(39, pSame, specSame)]
def pRoomy : List Nat := [0, 1, 0, 1, 1, 1]
structure GRoomy where
  l : List Wr
  m : Wr
def slRoomy (g : GRoomy) (i : Nat) : List (Nat × Value) := [(3, .pointer (some ⟨1, 0, none⟩)), (5, .slice (some ⟨2, 0, none⟩) (g.l.length + 80) 3), (6, .int .i64 (i : Nat))]
def rlRoomy (g : GRoomy) (i : Nat) : List (Nat × Row) := [(0, gRo enW g.l), (1, ⟨enW g.m, false, .cells false⟩), (2, gOwn enW (g.l ++ (List.replicate (i - g.l.length) g.m ++ List.replicate (80 + g.l.length - i) ⟨⟨[], []⟩, 0⟩)))]
def wsRoomy (g : GRoomy) : List (Gate Unit) := [⟨.exit 0, fun _ => True, fun _ => [(5, .slice (some ⟨1, 0, none⟩) (g.l.length + 80) 3)], fun _ => [(0, gRo enW g.l), (1, gOwn enW (g.l ++ List.replicate 80 g.m))], 2⟩]
def specRoomy : Sy.Spec := specOf 1 3 27 (fun g : GRoomy => g.l.length ≤ 16777136) (fun g => slRoomy g g.l.length) (fun g => rlRoomy g g.l.length) wsRoomy
def mRoomy := mOf [(18, pRoomy, specRoomy)]
def pInt : List Nat := [0, 1, 0, 1, 1]
def dSe (r : Row) : List Wr := decW r.cells
def IsWb (r : Row) (n : Nat) : Prop := ∃ l, r = gRo enW l ∧ n = l.length
def IsSe (r : Row) (n : Nat) : Prop := IsWb r n
open Classical in
noncomputable def sameSe (a b : List Wr) : Bool := decide (a = b)
noncomputable def cBook : FuncId → List Value → List Row → Option (Prop × Value × List Row)
  | 39, [.slice (some ⟨0, 0, none⟩) n 3, .slice (some ⟨1, 0, none⟩) m 3], [r0, r1] => some (IsSe r0 n ∧ IsSe r1 m ∧ n ≤ maxLen, .bool (sameSe (dSe r0) (dSe r1)), [])
  | _, _, _ => none
noncomputable abbrev E1 : Env := envC Try.prog cBook (fun f => Nat.beq f 39)
structure GInt where
  a : List Wr
  b : List Wr
  m : Wr
def slInt (g : GInt) (i : Nat) : List (Nat × Value) := [(0, .slice (some ⟨0, 0, none⟩) g.a.length 3), (5, .pointer (some ⟨2, 0, none⟩)), (7, .int .i64 (i : Nat))]
def rlInt (g : GInt) : List (Nat × Row) := [(0, gRo enW g.a), (1, gRo enW g.b), (2, ⟨enW g.m, false, .cells false⟩)]
def rlInt2 (g : GInt) : List (Nat × Row) := [(0, gRo enW g.a), (1, gRo enW g.b)]
def restIs (g : GInt) (i : Nat) : Prop := ∀ x ∈ g.a.drop i, x = g.m
def wsInt (g : GInt) : List (Gate Unit) := [⟨.exit 0, fun _ => restIs g g.b.length, fun _ => [], fun _ => rlInt2 g, 2⟩, ⟨.ret, fun _ => ¬ restIs g g.b.length, fun _ => [(6, .bool false)], fun _ => rlInt2 g, 2⟩]
def specInt : Sy.Spec := specOf 2 3 37 (fun g : GInt => g.a.length ≤ maxLen ∧ g.b.length ≤ g.a.length) (fun g => slInt g g.b.length) (fun g => rlInt g) wsInt
def mInt := mOf [(20, pInt, specInt)]
theorem same_round (g : GSame) (i : Nat) (Inv : Nat → Prop) (m : Nat → Nat) : mev tk.E0 noM 60 39 (0 :: pSame) false (codeOf Try.prog 39 (0 :: pSame)) ⟨mkOv (slSame g i), 26, []⟩ none ⟨mkR (rlSame g), 2⟩ (roundK 2 2 26 Inv m (slSame g) (fun _ => rlSame g) (wsSame g) i) =
  let z1 := ((Eq (α := List Value) (gC enW g.1) (gC enW g.1)) /\ ((Plain (gC enW g.1)) /\ ((Eq (α := List Value) (gC enW g.2) (gC enW g.2)) /\ ((Plain (gC enW g.2)) /\
  True)))); let z2 := (Array.mk [Value.string (cellS (gC enW g.1) (0 + Int.toNat (↑i : Int) * 3)), Value.string (cellS (gC enW g.1) (0 + Int.toNat (↑i : Int) * 3 + 1)),
  Value.int IntKind.i64 (cellI (gC enW g.1) (0 + Int.toNat (↑i : Int) * 3 + 1 + 1))]); let z3 := (Array.mk [Value.string (cellS (gC enW g.2) (0 + Int.toNat (↑i : Int) * 3)),
  Value.string (cellS (gC enW g.2) (0 + Int.toNat (↑i : Int) * 3 + 1)), Value.int IntKind.i64 (cellI (gC enW g.2) (0 + Int.toNat (↑i : Int) * 3 + 1 + 1))]); let z4 := (Eq (α
  := Option Value) ((gC enW g.1)[0 + Int.toNat (↑i : Int) * 3 + 1 + 1]?) (some (Value.int IntKind.i64 (cellI (gC enW g.1) (0 + Int.toNat (↑i : Int) * 3 + 1 + 1))))); let z5
  := (Eq (α := Option Value) ((gC enW g.2)[0 + Int.toNat (↑i : Int) * 3 + 1 + 1]?) (some (Value.int IntKind.i64 (cellI (gC enW g.2) (0 + Int.toNat (↑i : Int) * 3 + 1 +
  1))))); let z6 := (Eq (α := Option Value) ((gC enW g.1)[0 + Int.toNat (↑i : Int) * 3 + 1]?) (some (Value.string (cellS (gC enW g.1) (0 + Int.toNat (↑i : Int) * 3 + 1)))));
  let z7 := (Eq (α := Option Value) ((gC enW g.2)[0 + Int.toNat (↑i : Int) * 3 + 1]?) (some (Value.string (cellS (gC enW g.2) (0 + Int.toNat (↑i : Int) * 3 + 1))))); let z8
  := (Eq (α := Option Value) ((gC enW g.1)[0 + Int.toNat (↑i : Int) * 3]?) (some (Value.string (cellS (gC enW g.1) (0 + Int.toNat (↑i : Int) * 3))))); let z9 := (Eq (α :=
  Option Value) ((gC enW g.2)[0 + Int.toNat (↑i : Int) * 3]?) (some (Value.string (cellS (gC enW g.2) (0 + Int.toNat (↑i : Int) * 3))))); (br (decide ((↑i : Int) < Int.ofNat
  (List.length g.1))) (br (decide ((0 : Int) <= (↑i : Int) /\ (↑i : Int) < (↑(List.length g.1) : Int))) (z8 /\ (z6 /\ (z4 /\ (br (decide ((0 : Int) <= (↑i : Int) /\ (↑i :
  Int) < (↑(List.length g.2) : Int))) (z9 /\ (z7 /\ (z5 /\ (z8 /\ (z6 /\ (z4 /\ ((Value.agg z2 = Value.agg z2) /\ (z9 /\ (z7 /\ (z5 /\ ((Value.agg z3 = Value.agg z3) /\ (br
  (!(cellS (gC enW g.1) (0 + Int.toNat (↑i : Int) * 3) == cellS (gC enW g.2) (0 + Int.toNat (↑i : Int) * 3) && (cellS (gC enW g.1) (0 + Int.toNat (↑i : Int) * 3 + 1) ==
  cellS (gC enW g.2) (0 + Int.toNat (↑i : Int) * 3 + 1) && true) && (cellI (gC enW g.1) (0 + Int.toNat (↑i : Int) * 3 + 1 + 1) == cellI (gC enW g.2) (0 + Int.toNat (↑i :
  Int) * 3 + 1 + 1) && true))) (∃ y : Unit, ((g.1 ≠ g.2) /\ ((false = false) /\ z1))) (∃ j : Nat, ((Inv j) /\ ((m j < m i) /\ ((0 = 0) /\ ((List.length g.1 = List.length
  g.1) /\ ((0 = 0) /\ ((List.length g.2 = List.length g.2) /\ (((↑j : Int) = IntKind.wrap IntKind.i64 ((↑i : Int) + (1 : Int))) /\ z1)))))))))))))))))))) False)))) False) (∃
  y : Unit, ((Eq (α := List Wr) (g.1) (g.2)) /\ z1))) := by kernel_rfl
theorem same_vc (a b : List Wr) (v : Bool) : mcall tk.E0 mSame 60 39 [.slice (some ⟨0, 0, none⟩) a.length 3, .slice (some ⟨1, 0, none⟩) b.length 3] ⟨mkR (nums 0 [gRo enW a, gRo enW b]), 2⟩ (retIs 2 (.bool v) [gRo enW a, gRo enW b]) =
  (br (Int.ofNat (List.length a) != Int.ofNat (List.length b)) ((v = false) /\ ((Eq (α := List Value) (gC enW a) (gC enW a)) /\ ((Plain (gC enW a)) /\ ((Eq (α := List Value)
  (gC enW b) (gC enW b)) /\ ((Plain (gC enW b)) /\ True))))) (∃ g : GSame, ((List.length g.1 = List.length g.2 /\ List.length g.1 <= 9223372036854775807) /\ ((0 = 0) /\
  ((List.length g.1 = List.length a) /\ ((0 = 0) /\ ((List.length g.2 = List.length b) /\ (((0 : Int) = (0 : Int)) /\ ((Eq (α := List Value) (gC enW g.1) (gC enW a)) /\
  ((Plain (gC enW g.1)) /\ ((Eq (α := List Value) (gC enW g.2) (gC enW b)) /\ ((Plain (gC enW g.2)) /\ (∀ (side : Bool), (br (side) (∀ (y : Unit), ((g.1 = g.2) → ((v = true)
  /\ ((Eq (α := List Value) (gC enW a) (gC enW g.1)) /\ ((Plain (gC enW a)) /\ ((Eq (α := List Value) (gC enW b) (gC enW g.2)) /\ ((Plain (gC enW b)) /\ True))))))) (∀ (y :
  Unit), ((g.1 ≠ g.2) → ((v = false) /\ ((Eq (α := List Value) (gC enW a) (gC enW g.1)) /\ ((Plain (gC enW a)) /\ ((Eq (α := List Value) (gC enW b) (gC enW g.2)) /\ ((Plain
  (gC enW b)) /\ True))))))))))))))))))))) := by kernel_rfl
theorem roomy_round (g : GRoomy) (i : Nat) (Inv : Nat → Prop) (m : Nat → Nat) : mev tk.E0 noM 60 18 (0 :: pRoomy) false (codeOf Try.prog 18 (0 :: pRoomy)) ⟨mkOv (slRoomy g i), 27, []⟩ none ⟨mkR (rlRoomy g i), 3⟩ (roundK 1 3 27 Inv m (slRoomy g) (rlRoomy g) (wsRoomy g) i) =
  let z1 := (gC enW (g.1 ++ [GRoomy.m g, GRoomy.m g, GRoomy.m g, GRoomy.m g, GRoomy.m g, GRoomy.m g, GRoomy.m g, GRoomy.m g, GRoomy.m g, GRoomy.m g, GRoomy.m g, GRoomy.m g,
  GRoomy.m g, GRoomy.m g, GRoomy.m g, GRoomy.m g, GRoomy.m g, GRoomy.m g, GRoomy.m g, GRoomy.m g, GRoomy.m g, GRoomy.m g, GRoomy.m g, GRoomy.m g, GRoomy.m g, GRoomy.m g,
  GRoomy.m g, GRoomy.m g, GRoomy.m g, GRoomy.m g, GRoomy.m g, GRoomy.m g, GRoomy.m g, GRoomy.m g, GRoomy.m g, GRoomy.m g, GRoomy.m g, GRoomy.m g, GRoomy.m g, GRoomy.m g,
  GRoomy.m g, GRoomy.m g, GRoomy.m g, GRoomy.m g, GRoomy.m g, GRoomy.m g, GRoomy.m g, GRoomy.m g, GRoomy.m g, GRoomy.m g, GRoomy.m g, GRoomy.m g, GRoomy.m g, GRoomy.m g,
  GRoomy.m g, GRoomy.m g, GRoomy.m g, GRoomy.m g, GRoomy.m g, GRoomy.m g, GRoomy.m g, GRoomy.m g, GRoomy.m g, GRoomy.m g, GRoomy.m g, GRoomy.m g, GRoomy.m g, GRoomy.m g,
  GRoomy.m g, GRoomy.m g, GRoomy.m g, GRoomy.m g, GRoomy.m g, GRoomy.m g, GRoomy.m g, GRoomy.m g, GRoomy.m g, GRoomy.m g, GRoomy.m g, GRoomy.m g])); let z2 := (gC enW (g.1
  ++ (List.replicate (i - List.length g.1) (GRoomy.m g) ++ List.replicate (80 + List.length g.1 - i) (Wr.mk (Fl.mk [] []) (0 : Int))))); let z3 := (Eq (α := List Value) (gC
  enW g.1) (gC enW g.1)); let z4 := (List.length g.1 + 80 = List.length g.1 + 80); (br (decide ((↑i : Int) < Int.ofNat (List.length g.1 + 80))) (br (decide ((0 : Int) <= (↑i
  : Int) /\ (↑i : Int) < (↑(List.length g.1 + 80) : Int))) (br (decide (0 + Int.toNat (↑i : Int) * 3 + 3 <= List.length z2)) (∃ j : Nat, ((Inv j) /\ ((m j < m i) /\ ((0 = 0)
  /\ ((0 = 0) /\ (z4 /\ (((↑j : Int) = IntKind.wrap IntKind.i64 ((↑i : Int) + (1 : Int))) /\ (z3 /\ ((Plain (gC enW g.1)) /\ ((bs g.2.1.1 = bs g.2.1.1) /\ ((bs g.2.1.2 = bs
  g.2.1.2) /\ ((g.2.2 = g.2.2) /\ ((Eq (α := List Value) (gC enW (g.1 ++ (List.replicate (j - List.length g.1) (GRoomy.m g) ++ List.replicate (80 + List.length g.1 - j)
  (Wr.mk (Fl.mk [] []) (0 : Int))))) (ovr z2 (0 + Int.toNat (↑i : Int) * 3) [Value.string (bs g.2.1.1), Value.string (bs g.2.1.2), Value.int IntKind.i64 g.2.2])) /\ ((Plain
  (gC enW (g.1 ++ (List.replicate (j - List.length g.1) (GRoomy.m g) ++ List.replicate (80 + List.length g.1 - j) (Wr.mk (Fl.mk [] []) (0 : Int)))))) /\ True))))))))))))))
  False) False) (∃ y : Unit, ((True) /\ ((0 = 0) /\ (z4 /\ (z3 /\ ((Plain (gC enW g.1)) /\ ((Eq (α := List Value) z1 z2) /\ ((Plain z1) /\ True))))))))) := by kernel_rfl
theorem roomy_vc (l : List Wr) (m : Wr) : mcall tk.E0 mRoomy 60 18 [.slice (some ⟨0, 0, none⟩) l.length 3, .agg ⟨enW m⟩] ⟨mkR (nums 0 [gRo enW l]), 1⟩ (retIs 1 (.slice (some ⟨1, 0, none⟩) (l.length + 80) 3) [gRo enW l, gOwn enW (l ++ List.replicate 80 m)]) =
  let z1 := (List.take (Nat.min (List.length l) (Int.toNat (IntKind.wrap IntKind.i64 (Int.ofNat (List.length l) + (80 : Int)))) * 3) (List.take (List.length l * 3)
  (List.drop 0 (gC enW l)))); let z2 := (gC enW (l ++ [m, m, m, m, m, m, m, m, m, m, m, m, m, m, m, m, m, m, m, m, m, m, m, m, m, m, m, m, m, m, m, m, m, m, m, m, m, m, m,
  m, m, m, m, m, m, m, m, m, m, m, m, m, m, m, m, m, m, m, m, m, m, m, m, m, m, m, m, m, m, m, m, m, m, m, m, m, m, m, m, m])); let z3 := (List.flatten (List.replicate
  (Int.toNat (IntKind.wrap IntKind.i64 (Int.ofNat (List.length l) + (80 : Int)))) [Value.string (ByteArray.mk #[]), Value.string (ByteArray.mk #[]), Value.int IntKind.i64 (0
  : Int)])); (br (decide ((0 : Int) <= IntKind.wrap IntKind.i64 (Int.ofNat (List.length l) + (80 : Int)) /\ IntKind.wrap IntKind.i64 (Int.ofNat (List.length l) + (80 : Int))
  <= IntKind.wrap IntKind.i64 (Int.ofNat (List.length l) + (80 : Int)) /\ IntKind.wrap IntKind.i64 (Int.ofNat (List.length l) + (80 : Int)) <= (16777216 : Int))) (br (decide
  (0 + List.length l * 3 <= List.length (gC enW l))) (br (decide (0 + List.length z1 <= List.length z3)) (br (allOne z1) (∃ g : GRoomy, ((List.length g.1 <= 16777136) /\ ((0
  = 0) /\ ((0 = 0) /\ ((List.length g.1 + 80 = Int.toNat (IntKind.wrap IntKind.i64 (Int.ofNat (List.length l) + (80 : Int)))) /\ (((↑(List.length g.1) : Int) = Int.ofNat
  (List.length l)) /\ ((Eq (α := List Value) (gC enW g.1) (gC enW l)) /\ ((Plain (gC enW g.1)) /\ ((bs g.2.1.1 = bs m.1.1) /\ ((bs g.2.1.2 = bs m.1.2) /\ ((g.2.2 = m.2) /\
  ((Eq (α := List Value) (gC enW (g.1 ++ (List.replicate (List.length g.1 - List.length g.1) (GRoomy.m g) ++ List.replicate (80 + List.length g.1 - List.length g.1) (Wr.mk
  (Fl.mk [] []) (0 : Int))))) (ovr z3 0 z1)) /\ ((Plain (gC enW (g.1 ++ (List.replicate (List.length g.1 - List.length g.1) (GRoomy.m g) ++ List.replicate (80 + List.length
  g.1 - List.length g.1) (Wr.mk (Fl.mk [] []) (0 : Int)))))) /\ (∀ (y : Unit), ((True) → ((0 = 0) /\ ((List.length l + 80 = List.length g.1 + 80) /\ ((Eq (α := List Value)
  (gC enW l) (gC enW g.1)) /\ ((Plain (gC enW l)) /\ ((Eq (α := List Value) z2 (gC enW (g.1 ++ [GRoomy.m g, GRoomy.m g, GRoomy.m g, GRoomy.m g, GRoomy.m g, GRoomy.m g,
  GRoomy.m g, GRoomy.m g, GRoomy.m g, GRoomy.m g, GRoomy.m g, GRoomy.m g, GRoomy.m g, GRoomy.m g, GRoomy.m g, GRoomy.m g, GRoomy.m g, GRoomy.m g, GRoomy.m g, GRoomy.m g,
  GRoomy.m g, GRoomy.m g, GRoomy.m g, GRoomy.m g, GRoomy.m g, GRoomy.m g, GRoomy.m g, GRoomy.m g, GRoomy.m g, GRoomy.m g, GRoomy.m g, GRoomy.m g, GRoomy.m g, GRoomy.m g,
  GRoomy.m g, GRoomy.m g, GRoomy.m g, GRoomy.m g, GRoomy.m g, GRoomy.m g, GRoomy.m g, GRoomy.m g, GRoomy.m g, GRoomy.m g, GRoomy.m g, GRoomy.m g, GRoomy.m g, GRoomy.m g,
  GRoomy.m g, GRoomy.m g, GRoomy.m g, GRoomy.m g, GRoomy.m g, GRoomy.m g, GRoomy.m g, GRoomy.m g, GRoomy.m g, GRoomy.m g, GRoomy.m g, GRoomy.m g, GRoomy.m g, GRoomy.m g,
  GRoomy.m g, GRoomy.m g, GRoomy.m g, GRoomy.m g, GRoomy.m g, GRoomy.m g, GRoomy.m g, GRoomy.m g, GRoomy.m g, GRoomy.m g, GRoomy.m g, GRoomy.m g, GRoomy.m g, GRoomy.m g,
  GRoomy.m g, GRoomy.m g, GRoomy.m g, GRoomy.m g]))) /\ ((Plain z2) /\ True))))))))))))))))))))) False) False) False) False) := by kernel_rfl
theorem int_round (g : GInt) (i : Nat) (Inv : Nat → Prop) (m : Nat → Nat) : mev E1 noM 60 20 (0 :: pInt) false (codeOf Try.prog 20 (0 :: pInt)) ⟨mkOv (slInt g i), 37, []⟩ none ⟨mkR (rlInt g), 3⟩ (roundK 2 3 37 Inv m (slInt g) (fun _ => rlInt g) (wsInt g) i) =
  let z1 := (Array.mk [Value.string (cellS (gC enW g.1) (0 + Int.toNat (↑i : Int) * 3)), Value.string (cellS (gC enW g.1) (0 + Int.toNat (↑i : Int) * 3 + 1)), Value.int
  IntKind.i64 (cellI (gC enW g.1) (0 + Int.toNat (↑i : Int) * 3 + 1 + 1))]); let z2 := (Eq (α := Option Value) ((gC enW g.1)[0 + Int.toNat (↑i : Int) * 3 + 1 + 1]?) (some
  (Value.int IntKind.i64 (cellI (gC enW g.1) (0 + Int.toNat (↑i : Int) * 3 + 1 + 1))))); let z3 := ((Eq (α := List Value) (gC enW g.1) (gC enW g.1)) /\ ((Plain (gC enW g.1))
  /\ ((Eq (α := List Value) (gC enW g.2) (gC enW g.2)) /\ ((Plain (gC enW g.2)) /\ True)))); let z4 := (Eq (α := Option Value) ((gC enW g.1)[0 + Int.toNat (↑i : Int) * 3 +
  1]?) (some (Value.string (cellS (gC enW g.1) (0 + Int.toNat (↑i : Int) * 3 + 1))))); let z5 := (Eq (α := Option Value) ((gC enW g.1)[0 + Int.toNat (↑i : Int) * 3]?) (some
  (Value.string (cellS (gC enW g.1) (0 + Int.toNat (↑i : Int) * 3))))); let z6 := (Array.mk [Value.string (bs g.3.1.1), Value.string (bs g.3.1.2), Value.int IntKind.i64
  g.3.2]); (br (decide ((↑i : Int) < Int.ofNat (List.length g.1))) (br (decide ((0 : Int) <= (↑i : Int) /\ (↑i : Int) < (↑(List.length g.1) : Int))) (z5 /\ (z4 /\ (z2 /\ (z5
  /\ (z4 /\ (z2 /\ ((Value.agg z1 = Value.agg z1) /\ ((Value.agg z6 = Value.agg z6) /\ (br (!(cellS (gC enW g.1) (0 + Int.toNat (↑i : Int) * 3) == bs g.3.1.1 && (cellS (gC
  enW g.1) (0 + Int.toNat (↑i : Int) * 3 + 1) == bs g.3.1.2 && true) && (cellI (gC enW g.1) (0 + Int.toNat (↑i : Int) * 3 + 1 + 1) == g.3.2 && true))) (∃ y : Unit, ((¬restIs
  g (List.length g.2)) /\ ((false = false) /\ z3))) (∃ j : Nat, ((Inv j) /\ ((m j < m i) /\ ((0 = 0) /\ ((List.length g.1 = List.length g.1) /\ ((0 = 0) /\ (((↑j : Int) =
  IntKind.wrap IntKind.i64 ((↑i : Int) + (1 : Int))) /\ ((Eq (α := List Value) (gC enW g.1) (gC enW g.1)) /\ ((Plain (gC enW g.1)) /\ ((Eq (α := List Value) (gC enW g.2) (gC
  enW g.2)) /\ ((Plain (gC enW g.2)) /\ ((bs g.3.1.1 = bs g.3.1.1) /\ ((bs g.3.1.2 = bs g.3.1.2) /\ ((g.3.2 = g.3.2) /\ True))))))))))))))))))))))) False) (∃ y : Unit,
  ((restIs g (List.length g.2)) /\ z3))) := by kernel_rfl
theorem int_vc (a b : List Wr) (m : Wr) (v : Bool) : mcall E1 mInt 60 20 [.slice (some ⟨0, 0, none⟩) a.length 3, .slice (some ⟨1, 0, none⟩) b.length 3, .agg ⟨enW m⟩] ⟨mkR (nums 0 [gRo enW a, gRo enW b]), 2⟩ (retIs 2 (.bool v) [gRo enW a, gRo enW b]) =
  let z1 := (List.take ((Int.toNat (Int.ofNat (List.length b)) - 0) * 3) (List.drop 0 (gC enW a))); let z2 := ((v = false) /\ ((Eq (α := List Value) (gC enW a) (gC enW a))
  /\ ((Plain (gC enW a)) /\ ((Eq (α := List Value) (gC enW b) (gC enW b)) /\ ((Plain (gC enW b)) /\ True))))); let z3 := (List.take (List.length b * 3) (List.drop 0 (gC enW
  b))); (br (Int.ofNat (List.length a) != IntKind.wrap IntKind.i64 (Int.ofNat (List.length b) + (80 : Int))) z2 (br (decide ((0 : Int) <= (↑0 : Int) /\ (0 : Int) <=
  Int.ofNat (List.length b) /\ Int.ofNat (List.length b) <= (↑(List.length a) : Int))) (((((0 + (Int.toNat (Int.ofNat (List.length b)) - 0) * 3 <= List.length (gC enW a) /\
  Plain z1) /\ ((0 + List.length b * 3 <= List.length (gC enW b) /\ Plain z3) /\ True)) /\ (True /\ (IsSe (Row.mk z1 true (Ob.cells true)) (Int.toNat (Int.ofNat (List.length
  b)) - 0) /\ (IsSe (Row.mk z3 true (Ob.cells true)) (List.length b) /\ Int.toNat (Int.ofNat (List.length b)) - 0 <= 9223372036854775807))))) /\ (br (!sameSe (dSe (Row.mk z1
  true (Ob.cells true))) (dSe (Row.mk z3 true (Ob.cells true)))) z2 (∃ g : GInt, ((List.length g.1 <= 9223372036854775807 /\ List.length g.2 <= List.length g.1) /\ ((0 = 0)
  /\ ((List.length g.1 = List.length a) /\ ((0 = 0) /\ (((↑(List.length g.2) : Int) = Int.ofNat (List.length b)) /\ ((Eq (α := List Value) (gC enW g.1) (gC enW a)) /\
  ((Plain (gC enW g.1)) /\ ((Eq (α := List Value) (gC enW g.2) (gC enW b)) /\ ((Plain (gC enW g.2)) /\ ((bs g.3.1.1 = bs m.1.1) /\ ((bs g.3.1.2 = bs m.1.2) /\ ((g.3.2 = m.2)
  /\ (∀ (side : Bool), (br (side) (∀ (y : Unit), ((restIs g (List.length g.2)) → ((v = true) /\ ((Eq (α := List Value) (gC enW a) (gC enW g.1)) /\ ((Plain (gC enW a)) /\
  ((Eq (α := List Value) (gC enW b) (gC enW g.2)) /\ ((Plain (gC enW b)) /\ True))))))) (∀ (y : Unit), ((¬restIs g (List.length g.2)) → ((v = false) /\ ((Eq (α := List
  Value) (gC enW a) (gC enW g.1)) /\ ((Plain (gC enW a)) /\ ((Eq (α := List Value) (gC enW b) (gC enW g.2)) /\ ((Plain (gC enW b)) /\ True)))))))))))))))))))))))) False)) := by kernel_rfl
theorem dSe_mk (l : List Wr) (a : Bool) (o : Ob) : dSe ⟨gC enW l, a, o⟩ = l := decW_gC l
theorem isSe_mk (l : List Wr) (n : Nat) (h : n = l.length) : IsSe ⟨gC enW l, true, .cells true⟩ n := ⟨l, rfl, h⟩
theorem bs_beq (a b : List UInt8) : (bs a == bs b) = decide (a = b) := by
  have e : (bs a == bs b) = (a.toArray == b.toArray) := rfl
  rw [e]
  by_cases h : a = b
  · subst h; simp
  · have : a.toArray ≠ b.toArray := fun e => h (by simpa using e)
    simp [h]
theorem seqF {a b : Wr} (h : ((bs a.f.n == bs b.f.n && (bs a.f.v == bs b.f.v && true)) && (a.h == b.h && true)) = true) : a = b := by
  rw [bs_beq, bs_beq] at h
  obtain ⟨⟨x, y⟩, p⟩ := a; obtain ⟨⟨z, w⟩, q⟩ := b
  simp at h
  obtain ⟨⟨h1, h2⟩, h3⟩ := h
  subst h1; subst h2; subst h3; rfl
theorem sneF {a b : Wr} (h : ((bs a.f.n == bs b.f.n && (bs a.f.v == bs b.f.v && true)) && (a.h == b.h && true)) = false) : a ≠ b := by
  rintro rfl; rw [bs_beq, bs_beq] at h; simp at h
theorem take_succ {α : Type} {l : List α} {i : Nat} (h : i < l.length) : l.take (i + 1) = l.take i ++ [l[i]] := List.take_succ_eq_append_getElem h
theorem sameSe_yes {a b : List Wr} (h : a = b) : sameSe a b = true := by unfold sameSe; simp [h]
theorem sameSe_no {a b : List Wr} (h : a ≠ b) : sameSe a b = false := by unfold sameSe; simp [h]
def invSame (g : GSame) (i : Nat) : Prop := i ≤ g.a.length ∧ g.a.take i = g.b.take i
theorem same_piece : PieceOk tk.E0 2 (39, pSame, specSame) := by
  refine piece_loop tk.mixed (calls_envN _) (lok_envN _) lm_none (n := 60) (by kernel_rfl) (fun _ => 0) invSame (fun g i => g.a.length - i) (sl := slSame) (rl := fun g _ => rlSame g) (fun g _ => ⟨by omega, rfl⟩) (fun g i hg hi => ?_)
  obtain ⟨g1, g2⟩ := hg
  unfold maxLen at g2
  refine (same_round g i _ _).mpr ?_
  simp only [ofNat_eq, toNat_cast, Nat.zero_add, Nat.add_zero, Nat.mul_one, List.drop_zero, bCells_len, bCells_drop, bCells_take, bCells_app, bCells_one, bCells_plain, List.length_replicate, List.length_append, List.length_take, List.length_drop, List.take_length, and_true, true_and, and_self, decide_true, List.length_nil, List.length_cons, Nat.sub_zero, dB_mk, dB_ro, List.take_zero, wPl]
  refine br_if (fun h => br_dec (by omega) ?_) (fun h => ?_)
  · have h1 : i < g.a.length := by omega
    have h2 : i < g.b.length := by omega
    obtain ⟨c1, c2, c5, c3, c4, c6⟩ := wGet g.a i h1
    obtain ⟨d1, d2, d5, d3, d4, d6⟩ := wGet g.b i h2
    simp only [c1, c2, c3, c4, c5, c6, d1, d2, d3, d4, d5, d6, true_and]
    refine br_dec (by omega) (br_intro (fun h3 => ⟨(), fun e => ?_⟩) (fun h3 => ?_))
    · have e' : g.a[i] = g.b[i] := by simp only [e]
      rw [e', bs_beq, bs_beq] at h3; simp at h3
    · have h5 : g.a[i] = g.b[i] := seqF (by simpa only [Bool.not_eq_false'] using h3)
      refine ⟨i + 1, ⟨by omega, ?_⟩, by omega, (i64_succ (by omega)).symm⟩
      rw [take_succ h1, take_succ h2, hi.2, h5]
  · refine ⟨(), ?_⟩
    have := hi.2
    rw [List.take_of_length_le (by omega), List.take_of_length_le (by omega)] at this
    exact this
theorem same_con (a b : List Wr) (ha : a.length ≤ maxLen) : Con Try.prog 39 [.slice (some ⟨0, 0, none⟩) a.length 3, .slice (some ⟨1, 0, none⟩) b.length 3] [gRo enW a, gRo enW b] (.bool (sameSe a b)) [gRo enW a, gRo enW b] := by
  refine con_vc (E := tk.E0) tk.mixed (calls_envN _) (lok_envN _) (M := mSame) (lm_one same_piece) (same_vc a b _) ?_
  simp only [ofNat_eq, toNat_cast, Nat.zero_add, Nat.add_zero, Nat.mul_one, List.drop_zero, bCells_len, bCells_drop, bCells_take, bCells_app, bCells_one, bCells_plain, List.length_replicate, List.length_append, List.length_take, List.length_drop, List.take_length, and_true, true_and, and_self, decide_true, List.length_nil, List.length_cons, Nat.sub_zero, dB_mk, dB_ro, List.take_zero, wPl]
  refine br_intro (fun h => ?_) (fun h => ?_)
  · refine sameSe_no fun e => ?_
    rw [e] at h; simp at h
  · have h : a.length = b.length := by
      have : (a.length : Int) = b.length := by simpa using h
      omega
    refine ⟨⟨a, b⟩, ⟨h, ha⟩, rfl, rfl, rfl, rfl, br_side (fun _ e => ?_) (fun _ e => ?_)⟩
    · exact ⟨sameSe_yes e, rfl, rfl⟩
    · exact ⟨sameSe_no e, rfl, rfl⟩
def invRoomy (g : GRoomy) (i : Nat) : Prop := g.l.length ≤ i ∧ i ≤ g.l.length + 80
def msRoomy (g : GRoomy) (i : Nat) : Nat := g.l.length + 80 - i
theorem rep_set {α : Type} (l : List α) (m z : α) (i : Nat) (h1 : l.length ≤ i) (h2 : i < l.length + 80) : (l ++ (List.replicate (i - l.length) m ++ List.replicate (80 + l.length - i) z)).set i m = l ++ (List.replicate (i + 1 - l.length) m ++ List.replicate (80 + l.length - (i + 1)) z) := by
  rw [show i + 1 - l.length = (i - l.length) + 1 by omega, show 80 + l.length - i = (80 + l.length - (i + 1)) + 1 by omega, List.replicate_succ' (a := m), List.replicate_succ (a := z), List.set_append_right i m (by omega), List.set_append_right (i - l.length) m (by simp)]
  simp
theorem roomy_piece : PieceOk tk.E0 1 (18, pRoomy, specRoomy) := by
  refine piece_loop tk.mixed (calls_envN _) (lok_envN _) lm_none (n := 60) (by kernel_rfl) (fun g : GRoomy => g.l.length) invRoomy msRoomy (sl := slRoomy) (rl := rlRoomy) (fun g _ => ⟨by omega, by omega⟩) (fun g i hg hi => ?_)
  have key := roomy_round g i (invRoomy g) (msRoomy g)
  refine key.mpr ?_
  unfold invRoomy msRoomy at *
  simp only [ofNat_eq, toNat_cast, Nat.zero_add, Nat.add_zero, Nat.mul_one, List.drop_zero, bCells_len, bCells_drop, bCells_take, bCells_app, bCells_one, bCells_plain, List.length_replicate, List.length_append, List.length_take, List.length_drop, List.take_length, and_true, true_and, and_self, decide_true, List.length_nil, List.length_cons, Nat.sub_zero, dB_mk, dB_ro, List.take_zero, wPl, wLen]
  refine br_if (fun h => ?_) (fun h => ?_)
  · refine br_dec ⟨by omega, by omega⟩ (br_dec (by omega) ?_)
    refine ⟨i + 1, ⟨by omega, by omega⟩, by omega, ?_⟩
    have hs := gC_set wK (g.l ++ (List.replicate (i - g.l.length) g.m ++ List.replicate (80 + g.l.length - i) ⟨⟨[], []⟩, 0⟩)) i g.m (by simp; omega)
    rw [rep_set _ _ _ _ (by omega) (by omega)] at hs
    exact ⟨(i64_succ (by omega)).symm, hs.symm⟩
  · refine ⟨(), ?_⟩
    rw [show i - g.l.length = 80 by omega, show 80 + g.l.length - i = 0 by omega]
    simp only [List.replicate_zero, List.append_nil]; rfl
theorem roomy_con (l : List Wr) (m : Wr) (h : l.length ≤ 16777136) : Con Try.prog 18 [.slice (some ⟨0, 0, none⟩) l.length 3, .agg ⟨enW m⟩] [gRo enW l] (.slice (some ⟨1, 0, none⟩) (l.length + 80) 3) [gRo enW l, gOwn enW (l ++ List.replicate 80 m)] := by
  refine con_vc (E := tk.E0) tk.mixed (calls_envN _) (lok_envN _) (M := mRoomy) (lm_one roomy_piece) (roomy_vc l m) ?_
  have w : IntKind.i64.wrap ((l.length : Int) + 80) = ((l.length + 80 : Nat) : Int) := by rw [wr64_id (by unfold I64; omega)]; omega
  have mn : Nat.min l.length (l.length + 80) = l.length := Nat.min_eq_left (by omega)
  have hr := gC_rep (en := enW) (l.length + 80) ⟨⟨[], []⟩, 0⟩
  have ht : (gC enW l).take (l.length * 3) = gC enW l := List.take_of_length_le (by rw [wLen]; omega)
  have ho := gC_ovr wK (List.replicate (l.length + 80) ⟨⟨[], []⟩, 0⟩) l 0
  have hz : enW ⟨⟨[], []⟩, 0⟩ = [.string (bs []), .string (bs []), .int .i64 0] := rfl
  rw [hz] at hr
  simp only [Nat.zero_mul, List.take_zero, List.nil_append, Nat.zero_add, List.drop_replicate, Nat.add_sub_cancel_left] at ho
  have hem : (⟨#[]⟩ : ByteArray) = bs [] := rfl
  simp only [ofNat_eq, toNat_cast, Nat.zero_add, Nat.add_zero, Nat.mul_one, List.drop_zero, bCells_len, bCells_drop, bCells_take, bCells_app, bCells_one, bCells_plain, List.length_replicate, List.length_append, List.length_take, List.length_drop, List.take_length, and_true, true_and, and_self, decide_true, List.length_nil, List.length_cons, Nat.sub_zero, dB_mk, dB_ro, List.take_zero, hem, w, mn, hr, ht, ho, wPl, wLen, (fun l => gC_one (fun _ => rfl) l : ∀ l : List Wr, allOne (gC enW l) = true)]
  refine br_dec ⟨by omega, by omega, by omega⟩ (br_dec (by omega) (br_dec (by omega) (br_b rfl ⟨⟨l, m⟩, h, ?_⟩)))
  simp only [ofNat_eq, toNat_cast, Nat.zero_add, Nat.add_zero, Nat.mul_one, List.drop_zero, bCells_len, bCells_drop, bCells_take, bCells_app, bCells_one, bCells_plain, List.length_replicate, List.length_append, List.length_take, List.length_drop, List.take_length, and_true, true_and, and_self, decide_true, List.length_nil, List.length_cons, Nat.sub_zero, dB_mk, dB_ro, List.take_zero, Nat.sub_self, List.replicate_zero, List.nil_append, Nat.add_sub_cancel]
  simp
theorem cBook_ok : ∀ f a rows p v news, cBook f a rows = some (p, v, news) → p → Con Try.prog f a rows v (rows ++ news) := by
  intro f a rows p v news h hp
  unfold cBook at h
  split at h
  · simp only [Option.some.injEq, Prod.mk.injEq] at h
    obtain ⟨rfl, rfl, rfl⟩ := h
    obtain ⟨⟨x, rfl, rfl⟩, ⟨y, rfl, rfl⟩, hl⟩ := hp
    have e : ∀ l, dSe (gRo enW l) = l := fun l => dSe_mk _ _ _
    simp only [e, List.append_nil]
    exact same_con x y hl
  · simp at h
theorem callsE1 : CallsOk E1.P (oOf E1) := calls_envC cBook_ok
def invInt (g : GInt) (i : Nat) : Prop := g.b.length ≤ i ∧ i ≤ g.a.length ∧ (restIs g g.b.length ↔ restIs g i)
def msInt (g : GInt) (i : Nat) : Nat := g.a.length - i
theorem int_piece : PieceOk E1 2 (20, pInt, specInt) := by
  refine piece_loop tk.mixed callsE1 (lok_envC _ _ _) lm_none (n := 60) (by kernel_rfl) (fun g : GInt => g.b.length) invInt msInt (sl := slInt) (rl := fun g _ => rlInt g) (fun g hg => ⟨by omega, hg.2, Iff.rfl⟩) (fun g i hg hi => ?_)
  refine (int_round g i _ _).mpr ?_
  obtain ⟨g1, g2⟩ := hg
  unfold maxLen at g1
  obtain ⟨h1, h2, h3⟩ := hi
  simp only [ofNat_eq, toNat_cast, Nat.zero_add, Nat.add_zero, Nat.mul_one, List.drop_zero, bCells_len, bCells_drop, bCells_take, bCells_app, bCells_one, bCells_plain, List.length_replicate, List.length_append, List.length_take, List.length_drop, List.take_length, and_true, true_and, and_self, decide_true, List.length_nil, List.length_cons, Nat.sub_zero, dB_mk, dB_ro, List.take_zero, wPl]
  refine br_if (fun h => ?_) (fun h => ?_)
  · have h : i < g.a.length := by omega
    obtain ⟨c1, c2, c5, c3, c4, c6⟩ := wGet g.a i h
    simp only [c1, c2, c3, c4, c5, c6, true_and]
    have hd := List.drop_eq_getElem_cons h
    refine br_dec (in_nat h) (br_intro (fun h4 => ⟨(), fun e => ?_⟩) (fun h4 => ⟨i + 1, ⟨by omega, by omega, ?_⟩, by unfold msInt; omega, (i64_succ (by omega)).symm⟩))
    · have h5 : g.a[i] ≠ g.m := sneF (by simpa only [Bool.not_eq_true'] using h4)
      exact h5 ((h3.1 e) _ (by rw [hd]; exact List.mem_cons_self))
    · have h5 : g.a[i] = g.m := seqF (by simpa only [Bool.not_eq_false'] using h4)
      rw [h3]; unfold restIs
      rw [hd]; simp [h5]
  · refine ⟨(), ?_⟩
    rw [h3]; unfold restIs
    rw [List.drop_eq_nil_of_le (by omega)]; simp
theorem rest_rep {α : Type} : ∀ (l : List α) (m : α), (∀ x ∈ l, x = m) → l = List.replicate l.length m := by
  intro l m h
  exact List.eq_replicate_of_mem h
theorem int_con (a b : List Wr) (m : Wr) (ha : a.length ≤ maxLen) (hb : b.length ≤ 9223372036854775000) : Con Try.prog 20 [.slice (some ⟨0, 0, none⟩) a.length 3, .slice (some ⟨1, 0, none⟩) b.length 3, .agg ⟨enW m⟩] [gRo enW a, gRo enW b] (.bool (sameSe a (b ++ List.replicate 80 m))) [gRo enW a, gRo enW b] := by
  refine con_vc (E := E1) tk.mixed callsE1 (lok_envC _ _ _) (M := mInt) (lm_one int_piece) (int_vc a b m _) ?_
  have w : IntKind.i64.wrap ((b.length : Int) + 80) = ((b.length + 80 : Nat) : Int) := by rw [wr64_id (by unfold I64; omega)]; omega
  simp only [ofNat_eq, toNat_cast, Nat.zero_add, Nat.add_zero, Nat.mul_one, List.drop_zero, bCells_len, bCells_drop, bCells_take, bCells_app, bCells_one, bCells_plain, List.length_replicate, List.length_append, List.length_take, List.length_drop, List.take_length, and_true, true_and, and_self, decide_true, List.length_nil, List.length_cons, Nat.sub_zero, dB_mk, dB_ro, List.take_zero, w, wPl, wLen, gC_take wK, dSe_mk]
  refine br_intro (fun h => ?_) (fun h => ?_)
  · refine sameSe_no fun e => ?_
    rw [e] at h; simp at h
  · have h : a.length = b.length + 80 := by
      have : (a.length : Int) = ((b.length + 80 : Nat) : Int) := by simpa using h
      omega
    refine br_dec ⟨by omega, by omega, by omega⟩ ⟨⟨⟨by omega, by omega⟩, isSe_mk _ _ (by simp; omega), isSe_mk _ _ rfl, by omega⟩, ?_⟩
    have hsplit : a = a.take b.length ++ a.drop b.length := (List.take_append_drop _ _).symm
    by_cases h5 : a.take b.length = b
    · refine br_nb (by rw [sameSe_yes h5]; rfl) ⟨⟨a, b, m⟩, ⟨ha, by simp only; omega⟩, rfl, rfl, rfl, rfl, rfl, rfl, rfl, br_side (fun _ hr => ⟨sameSe_yes ?_, rfl, rfl⟩) (fun _ hr => ⟨sameSe_no fun e => ?_, rfl, rfl⟩)⟩
      · have := rest_rep (a.drop b.length) m hr
        rw [List.length_drop, show a.length - b.length = 80 by omega] at this
        rw [hsplit, h5, this]
      · refine hr ?_
        unfold restIs
        simp only
        rw [e, List.drop_left]
        intro x hx; exact List.eq_of_mem_replicate hx
    · refine br_b (by rw [sameSe_no h5]; rfl) (sameSe_no fun e => h5 ?_)
      rw [e, List.take_left]
end Go.Proofs.Ytlkinjlbaeigdaa.wb
